"""[12] to [14]: the core."""

import unittest
from copy import deepcopy
from itertools import permutations

from mastcalls.cores import Core, core_of
from mastcalls.errors import BadName
from mastcalls.keeping import holds_against
from mastcalls.scenes import Call, Scene, wrong_seating
from tests.oracles import best_lot, count_moves, fewest_moves, is_paper
from tests.rows import Row

START = (("mast", "a", 1), ("mast", "b", 2), ("begin", "ann", 1), ("begin", "ben", 2), ("begin", "old", 0),
         ("end", "old"), ("down", "b"), ("hear", "ann", 5, ("a",)))


def state_of(core):
    """All attributes of a core, down to the lines."""
    told = {key: deepcopy(worth) for key, worth in vars(core).items() if key != "lines"}
    told["lines"] = {name: dict(vars(line)) for name, line in core.lines.items()}
    return told


class ExampleTest(unittest.TestCase):

    def test_the_example(self):
        core = Core()
        deeds = (("mast", "a", 1), ("begin", "ann", 1), ("hear", "ann", 1, ("a",)), ("begin", "ben", 2))
        seat = (("seat", "ann", "a", 1), ("list", "a", 1, (("ann", 1),)))
        self.assertEqual([core.do(deed) for deed in deeds], [(), (), seat, ()])
        self.assertEqual(core.do(("hear", "ben", 2, ("a",))),
                         (("gone", "ann", ("ann", "ben")), ("seat", "ben", "a", 2), ("list", "a", 2, (("ben", 2),))))

    def test_nothing_at_first(self):
        core = Core()
        self.assertEqual((core.channels, core.down, core.lines, core.gone), ({}, {}, {}, {}))
        self.assertEqual((core.epoch, core.number, core.lists, core.time, core.served), (0, 0, {}, 0, {}))
        self.assertEqual((core.present(), core.seats_now()), (Scene({}, {}), {}))

    def test_attributes(self):
        core = core_of((("mast", "b", 0), ("mast", "a", 1), ("begin", "y", 5), ("begin", "x", 3)))
        self.assertEqual(list(core.channels.items()), [("a", 1), ("b", 0)])
        self.assertEqual(list(core.lists.items()), [("a", (0, ())), ("b", (0, ()))])
        self.assertEqual(list(core.lines), ["x", "y"])
        line = core.lines["x"]
        self.assertEqual((line.worth, line.report, line.heard, line.epoch, line.mast), (3, -1, (), 0, None))
        core.do(("hear", "x", 0, ("b", "a", "b")))
        self.assertEqual((line.worth, line.report, line.heard, line.epoch, line.mast), (3, 0, ("a", "b"), 1, "a"))
        core.do(("down", "b"))
        self.assertEqual(list(core.down), ["b"])
        core.do(("up", "b"))
        self.assertEqual(core.down, {})


class WrongDeedsTest(unittest.TestCase):

    def setUp(self):
        self.core = core_of(START)

    def check(self, deed, name):
        was, value = state_of(self.core), self.core.value()
        with self.assertRaises(BadName, msg=repr(deed)) as caught:
            self.core.do(deed)
        self.assertEqual(caught.exception.name, name, repr(deed))
        self.assertIs(isinstance(caught.exception.name, bool), isinstance(name, bool))
        self.assertEqual((state_of(self.core), self.core.value()), (was, value))

    def test_no_deeds(self):
        for deed in ((), ("mas", "c", 1), ("tick", 1), ("mast", "c"), ("mast", "c", 1, 1), ("down",), ("up", "b", 1),
                     ("begin", "cat"), ("begin", "cat", 1, 2), ("hear", "ann", 6), ("hear", "ann", 6, "a", "b"),
                     ("end",), ("end", "ann", 1), (1, "a"), (None,), (["tick"],), ((),), ["tick"], "tick", None, 5,
                     {"tick": 1}, ["down", "a"], ("Tick",), ("",)):
            self.check(deed, deed)

    def test_masts(self):
        for mast in ("A", "", 1, None, ("c",), ["c"], "a", "b", "toolongname"):
            self.check(("mast", mast, 1), mast)
        for mast in ("b", "c", "ann", 1, ["a"], None):
            self.check(("down", mast), mast)
        for mast in ("a", "c", "ann", 1, ["b"], None):
            self.check(("up", mast), mast)

    def test_channels_and_worth(self):
        for many in (-1, 1001, True, False, "1", None, (1,)):
            self.check(("mast", "c", many), many)
            self.check(("begin", "cat", many), many)
        self.core.do(("mast", "c", 1000))
        self.core.do(("mast", "d", 0))
        self.core.do(("begin", "cat", 1000))
        self.core.do(("begin", "dan", 0))

    def test_calls(self):
        for call in ("ann", "old", "Cat", "", 1, None, ["cat"], ("cat",)):
            self.check(("begin", call, 1), call)
        for call in ("cat", "old", "a", "", 1, None, ["ann"]):
            self.check(("hear", call, 6, ("a",)), call)
            self.check(("end", call), call)

    def test_reports(self):
        for number in (-1, 1000000000000, True, False, "6", None):
            self.check(("hear", "ann", number, ("a",)), number)
        for masts in (["a"], "a", None, 1, {"a": 1}, []):
            self.check(("hear", "ann", 6, masts), masts)
        self.check(("hear", "ann", 6, ("a", "c", "d")), "c")
        self.check(("hear", "ann", 6, ("a", 1, "c")), 1)
        self.check(("hear", "ann", 6, (["a"],)), ["a"])
        self.check(("hear", "ann", 4, ("a", "c")), "c")
        self.core.do(("hear", "ann", 999999999999, ("b", "a")))
        self.core.do(("hear", "ben", 0, ()))

    def test_of_several_wrong_parts_the_first_one_told(self):
        self.check(("mast", "a", 5000), "a")
        self.check(("mast", "A", -1), "A")
        self.check(("begin", "ann", 5000), 5000)
        self.check(("begin", "Cat", -1), -1)
        self.check(("hear", "cat", -1, ["a"]), "cat")
        self.check(("hear", "ann", -1, ["a"]), -1)
        self.check(("hear", "ann", -1, ("c",)), -1)
        self.check(("hear", "cat", 1, ("c",)), "cat")
        self.check(("mast", "a", 1, 1), ("mast", "a", 1, 1))

    def test_core_of_raises_too(self):
        with self.assertRaises(BadName) as caught:
            core_of(START + (("end", "old"),))
        self.assertEqual(caught.exception.name, "old")


class NamesOnceTest(unittest.TestCase):

    def test_who_was_given_up_never_comes_again(self):
        core = core_of((("mast", "a", 1), ("begin", "x", 0), ("begin", "y", 1), ("hear", "y", 0, ("a",))))
        self.assertEqual(core.do(("hear", "x", 0, ("a",))), (("gone", "x", ("x", "y")),))
        self.assertEqual(core.gone, {"x": ("x", "y")})
        self.assertEqual((core.lines.get("x"), core.epoch_of("x")), (None, None))
        for deed in (("begin", "x", 9), ("hear", "x", 1, ("a",)), ("end", "x")):
            with self.assertRaises(BadName):
                core.do(deed)
        self.assertEqual(core.do(("end", "y")), (("list", "a", 2, ()),))
        self.assertEqual(core.gone, {"x": ("x", "y"), "y": "end"})
        with self.assertRaises(BadName):
            core.do(("begin", "y", 9))

    def test_a_mast_without_channels_keeps_nobody(self):
        core = core_of((("mast", "a", 0), ("begin", "x", 0)))
        self.assertEqual(core.do(("hear", "x", 0, ("a",))), (("gone", "x", ("x",)),))


    def test_names_that_are_words_of_deeds_too(self):
        words = ("mast", "down", "up", "begin", "hear", "end", "tick")
        core = core_of(tuple(("mast", word, 1) for word in words) + tuple(("begin", word, 1) for word in words))
        for word in words:
            core.do(("hear", word, 1, (word,)))
        self.assertEqual(core.seats_now(), {word: word for word in words})
        for word in words:
            core.do(("down", word))
            core.do(("up", word))
            core.do(("end", word))
        self.assertEqual((core.lines, core.down, core.time), ({}, {}, 0))
        self.assertEqual(core.gone, {word: "end" for word in words})


class RestTest(unittest.TestCase):

    def test_who_is_heard_by_nobody_rests(self):
        core = core_of((("mast", "a", 1), ("begin", "x", 1), ("hear", "x", 3, ("a",))))
        self.assertEqual(core.do(("hear", "x", 4, ())), (("rest", "x"), ("list", "a", 2, ())))
        self.assertEqual((core.lines["x"].epoch, core.lines["x"].mast, core.epoch_of("x")), (1, None, None))
        self.assertEqual(core.do(("hear", "x", 5, ("a",))), (("seat", "x", "a", 2), ("list", "a", 3, (("x", 2),))))
        self.assertEqual(core.do(("down", "a")), (("rest", "x"), ("list", "a", 4, ())))
        self.assertEqual(core.present(), Scene({}, {}))
        self.assertEqual(core.do(("up", "a")), (("seat", "x", "a", 3), ("list", "a", 5, (("x", 3),))))
        self.assertEqual(core.do(("end", "x")), (("list", "a", 6, ()),))
        self.assertEqual(core.gone, {"x": "end"})

    def test_who_rests_can_be_ended_without_an_event(self):
        core = core_of((("mast", "a", 1), ("begin", "x", 1)))
        self.assertEqual((core.do(("end", "x")), core.gone), ((), {"x": "end"}))

    def test_a_mast_that_goes_down_sends_its_calls_on(self):
        core = core_of((("mast", "a", 1), ("mast", "b", 1), ("begin", "x", 1), ("begin", "y", 2),
                        ("hear", "x", 0, ("a", "b")), ("hear", "y", 0, ("a", "b"))))
        self.assertEqual(core.seats_now(), {"x": "a", "y": "b"})
        self.assertEqual(core.do(("down", "b")), (
            ("gone", "x", ("x", "y")), ("seat", "y", "a", 3), ("list", "a", 3, (("y", 3),)), ("list", "b", 4, ())))


class ReportsTest(unittest.TestCase):

    def test_only_greater_numbers_count(self):
        core = core_of((("mast", "a", 1), ("mast", "b", 1), ("begin", "x", 1), ("hear", "x", 3, ("a",))))
        value = core.value()
        for number in (0, 2, 3):
            self.assertEqual(core.do(("hear", "x", number, ("b",))), ())
            self.assertEqual(core.value(), value)
        core.do(("hear", "x", 4, ("b",)))
        self.assertEqual(core.lines["x"].heard, ("b",))

    def test_in_any_order_and_doubled(self):
        start = (("mast", "a", 2), ("mast", "b", 2), ("begin", "x", 1), ("begin", "y", 1))
        reports = (("hear", "x", 1, ("a",)), ("hear", "x", 2, ("b",)), ("hear", "y", 0, ("a", "b")),
                   ("hear", "y", 7, ("a",)), ("hear", "x", 1, ("a",)))
        for row in permutations(reports):
            core = core_of(start + row + row)
            self.assertEqual((core.lines["x"].heard, core.lines["x"].report), (("b",), 2))
            self.assertEqual((core.lines["y"].heard, core.lines["y"].report), (("a",), 7))
            self.assertEqual(core.seats_now(), {"x": "b", "y": "a"})
            self.assertEqual(core.present(), Scene({"a": 2, "b": 2}, {"x": Call(1, ["b"]), "y": Call(1, ["a"])}))


class Model:
    """What the document says of a core, kept by hand beside one."""

    def __init__(self, test):
        self.test = test
        self.core = Core()
        self.channels, self.down, self.calls, self.gone = {}, [], {}, {}
        self.seats, self.epochs, self.lists = {}, {}, {}
        self.epoch, self.number, self.time, self.served = 0, 0, 0, {}
        self.deeds = []

    def do(self, deed):
        """Does a deed, and looks whether all that comes of it is right."""
        events = self.core.do(deed)
        self.deeds.append(deed)
        counts = self.note(deed)
        if not counts:
            self.test.assertEqual(events, ())
        else:
            self.test.assertEqual(events, self.settled())
        self.look()

    def note(self, deed):
        """Whether a deed may change seats."""
        if deed[0] == "tick":
            self.time += 1
            for pair in self.seats.items():
                self.served[pair] = self.served.get(pair, 0) + 1
            return False
        if deed[0] == "mast":
            self.channels[deed[1]] = deed[2]
            self.lists[deed[1]] = (0, ())
        elif deed[0] == "down":
            self.down.append(deed[1])
        elif deed[0] == "up":
            self.down.remove(deed[1])
        elif deed[0] == "begin":
            self.calls[deed[1]] = (deed[2], -1, ())
        elif deed[0] == "end":
            self.forget(deed[1], "end")
        else:
            worth, number, _ = self.calls[deed[1]]
            if deed[2] <= number:
                return False
            self.calls[deed[1]] = (worth, deed[2], tuple(sorted(set(deed[3]))))
        return True

    def forget(self, call, why):
        del self.calls[call]
        self.gone[call] = why
        self.seats.pop(call, None)
        self.epochs.pop(call, None)

    def scene(self):
        up = {mast: many for mast, many in self.channels.items() if mast not in self.down}
        heard = {call: [mast for mast in told[2] if mast in up] for call, told in self.calls.items()}
        return Scene(up, {call: Call(self.calls[call][0], heard[call]) for call in self.calls if heard[call]})

    def settled(self):
        """The events that must come; which fewest moves were taken is read off the core."""
        scene, before, now = self.scene(), dict(self.seats), self.core.seats_now()
        lot = best_lot(scene)
        self.test.assertEqual(tuple(now), lot)
        self.test.assertIsNone(wrong_seating(scene, now))
        self.test.assertEqual(count_moves(now, before), fewest_moves(scene, lot, before))
        events = []
        for call in scene.calls:
            if call not in lot:
                paper = self.core.gone[call]
                self.test.assertTrue(is_paper(scene, now, call, paper))
                self.test.assertTrue(holds_against(scene, now, call, paper))
                self.test.assertEqual(paper, tuple(sorted(paper)))
                events.append(("gone", call, paper))
                self.forget(call, paper)
        for call in sorted(self.calls):
            if call in now and before.get(call) != now[call]:
                self.epoch += 1
                self.epochs[call] = self.epoch
                events.append(("seat", call, now[call], self.epoch))
            elif call in before and call not in now:
                events.append(("rest", call))
        self.seats = now
        return tuple(events + self.new_lists())

    def new_lists(self):
        events = []
        for mast in sorted(self.channels):
            rows = tuple((call, self.epochs[call]) for call in sorted(self.seats) if self.seats[call] == mast)
            if rows != self.lists[mast][1]:
                self.number += 1
                self.lists[mast] = (self.number, rows)
                events.append(("list", mast, self.number, rows))
        return events

    def look(self):
        """Whether all attributes are as they must be."""
        core, same = self.core, self.test.assertEqual
        same((core.channels, sorted(core.down), core.gone), (self.channels, sorted(self.down), self.gone))
        same((core.epoch, core.number, core.time), (self.epoch, self.number, self.time))
        same((core.lists, core.served, core.seats_now()), (self.lists, self.served, self.seats))
        for table in (core.channels, core.down, core.gone, core.lines, core.lists, core.served, core.seats_now()):
            same(list(table), sorted(table))
        same(core.present(), self.scene())
        same({call: (line.worth, line.report, line.heard) for call, line in core.lines.items()}, self.calls)
        for call, line in core.lines.items():
            same(line.mast, self.seats.get(call))
            same(line.epoch, self.epochs.get(call, 0))
            same(core.epoch_of(call), self.epochs[call] if call in self.seats else None)
        for call in self.gone:
            same(core.epoch_of(call), None)
        for call in list(core.lines) + list(self.gone) + ["never"]:
            same(core.ticks_of(call), sum(many for pair, many in self.served.items() if pair[0] == call))


class RowsTest(unittest.TestCase):

    def test_behind_each_deed(self):
        gone, moved, rested = 0, 0, 0
        for seed in range(150):
            model, row = Model(self), Row(seed)
            for _ in range(40):
                model.do(row.next_deed(model.core))
            again = core_of(model.deeds)
            self.assertEqual(again.value(), model.core.value())
            self.assertEqual(state_of(again), state_of(model.core))
            gone += sum(1 for why in model.core.gone.values() if why != "end")
            moved += model.core.epoch
            rested += sum(1 for line in model.core.lines.values() if line.epoch and line.mast is None)
        self.assertTrue(gone > 100 and moved > 500 and rested > 20, (gone, moved, rested))

    def test_refused_deeds_change_nothing(self):
        for seed in range(30):
            core, row, other = Core(), Row(seed), Row(seed + 1000)
            stranger = Core()
            refused = 0
            for _ in range(40):
                core.do(row.next_deed(core))
                deed = other.next_deed(stranger)
                stranger.do(deed)
                was, value = state_of(core), core.value()
                try:
                    core.do(deed)
                except BadName:
                    refused += 1
                    self.assertEqual((state_of(core), core.value()), (was, value))
            self.assertGreater(refused, 5)


class TicksTest(unittest.TestCase):

    def test_served(self):
        core = core_of((("mast", "a", 1), ("mast", "b", 1), ("begin", "x", 1), ("tick",), ("hear", "x", 0, ("b",))))
        self.assertEqual((core.served, core.time), ({}, 1))
        self.assertEqual([core.do(("tick",)) for _ in range(3)], [(), (), ()])
        core.do(("hear", "x", 1, ("a",)))
        core.do(("tick",))
        core.do(("hear", "x", 2, ()))
        core.do(("tick",))
        self.assertEqual(list(core.served.items()), [(("x", "a"), 1), (("x", "b"), 3)])
        self.assertEqual((core.time, core.ticks_of("x"), core.ticks_of("y")), (6, 4, 0))
        core.do(("end", "x"))
        self.assertEqual(core.ticks_of("x"), 4)


class ValueTest(unittest.TestCase):

    def test_equal_for_the_same_and_unlike_for_others(self):
        rows = [(), (("tick",),), (("mast", "a", 1),), (("mast", "a", 2),), (("mast", "b", 1),),
                (("mast", "a", 1), ("down", "a")), START, START + (("tick",),), START[:-1],
                START + (("hear", "ann", 6, ("a",)),), START + (("hear", "ann", 6, ("b",)),),
                START + (("end", "ann"),), START + (("up", "b"),), START + (("begin", "cat", 1),),
                START + (("begin", "cat", 2),), START + (("hear", "ben", 6, ("a",)),)]
        values = [core_of(row).value() for row in rows]
        self.assertTrue(all(isinstance(value, tuple) for value in values))
        for at, value in enumerate(values):
            self.assertEqual(value, core_of(rows[at]).value())
            self.assertEqual(values.count(value), 1)

    def test_whatever_way_it_came_about(self):
        one = core_of((("mast", "a", 1), ("mast", "b", 1), ("begin", "x", 1), ("begin", "y", 1)))
        other = core_of((("begin", "y", 1), ("mast", "b", 1), ("begin", "x", 1), ("mast", "a", 1)))
        self.assertEqual(one.value(), other.value())
