"""[36]: calls that rest for too many ticks in a row are ended."""

import unittest
from random import Random

from mastcalls.cores import Core, core_of
from mastcalls.errors import BadName
from mastcalls.patience import Patience
from tests.rows import Row

START = (("mast", "a", 1), ("begin", "ann", 1), ("begin", "ben", 1), ("hear", "ben", 1, ("a",)))
WRONG = [None, "tick", (), ("tock",), ("tick", 1), ("mast", "a", 1), ("up", "a"), ("end", "zed"), ("begin", "ann", 1),
         ("hear", "ann", 1, ("q",)), ("hear", "ann", -1, ()), ("begin", "Ann", 1), ["tick"], 7, ("begin", "x", 1001)]


def resting(core):
    """Who is there and has no seat."""
    return [name for name, line in core.lines.items() if line.mast is None]


class Watcher:
    """Holds a patience against a core whose calls are ended by hand."""

    def __init__(self, test, core, twin, most):
        self.test = test
        self.patience = Patience(core, most)
        self.twin = twin
        # Behind each deed whether it was a tick, and who rested then.
        self.moments = [(False, resting(twin))]

    def row(self, name):
        """For how many ticks in a row somebody has rested, seen from now backwards."""
        ticks = 0
        for is_tick, names in reversed(self.moments):
            if name not in names:
                break
            ticks += is_tick
        return ticks

    def by_hand(self, deed):
        """Does a deed of the twin."""
        told = self.twin.do(deed)
        self.moments.append((deed[0] == "tick", resting(self.twin)))
        return deed, told

    def do(self, deed):
        done = [self.by_hand(deed)]
        if deed[0] == "tick":
            late = [name for name in sorted(resting(self.twin)) if self.row(name) > self.patience.most]
            done += [self.by_hand(("end", name)) for name in late]
        self.test.assertEqual(self.patience.do(deed), tuple(done))
        self.check()
        return len(done) - 1

    def check(self):
        rested = {name: self.row(name) for name in resting(self.twin)}
        self.test.assertEqual(list(self.patience.rested.items()), sorted(rested.items()))
        self.test.assertEqual(self.patience.core.value(), self.twin.value())


class PatienceTest(unittest.TestCase):

    def test_a_new_one(self):
        core = Core()
        patience = Patience(core, 5)
        self.assertIs(patience.core, core)
        self.assertEqual((patience.most, patience.rested), (5, {}))

    def test_a_core_that_was_there_before(self):
        core = core_of(START + (("tick",), ("tick",)))
        patience = Patience(core, 1)
        self.assertEqual(patience.rested, {"ann": 0})
        self.assertEqual(patience.do(("tick",)), ((("tick",), ()),))
        self.assertEqual(patience.rested, {"ann": 1})
        self.assertEqual(patience.do(("tick",)), ((("tick",), ()), (("end", "ann"), ())))
        self.assertEqual((patience.rested, core.gone), ({}, {"ann": "end"}))

    def test_no_patience_at_all(self):
        patience = Patience(core_of(START), 0)
        self.assertEqual(patience.rested, {"ann": 0})
        self.assertEqual(patience.do(("tick",)), ((("tick",), ()), (("end", "ann"), ())))
        self.assertEqual(patience.do(("tick",)), ((("tick",), ()),))

    def test_those_of_one_tick_by_names(self):
        patience = Patience(Core(), 0)
        for name in ("c", "a", "b"):
            self.assertEqual(patience.do(("begin", name, 0)), ((("begin", name, 0), ()),))
        self.assertEqual(list(patience.rested.items()), [("a", 0), ("b", 0), ("c", 0)])
        told = patience.do(("tick",))
        self.assertEqual([deed for deed, _ in told], [("tick",), ("end", "a"), ("end", "b"), ("end", "c")])

    def test_a_seat_ends_the_row_also_between_ticks(self):
        patience = Patience(core_of(START), 2)
        patience.do(("tick",))
        patience.do(("tick",))
        self.assertEqual(patience.rested, {"ann": 2})
        told = patience.do(("end", "ben"))
        self.assertEqual(told, ((("end", "ben"), (("list", "a", 2, ()),)),))
        told = patience.do(("hear", "ann", 1, ("a",)))
        self.assertEqual(told[0][1][0], ("seat", "ann", "a", 2))
        self.assertEqual(patience.rested, {})
        self.assertEqual(patience.do(("down", "a"))[0][1][0], ("rest", "ann"))
        self.assertEqual(patience.rested, {"ann": 0})
        for ticks in (1, 2):
            self.assertEqual(patience.do(("tick",)), ((("tick",), ()),))
            self.assertEqual(patience.rested, {"ann": ticks})
        self.assertEqual([deed for deed, _ in patience.do(("tick",))], [("tick",), ("end", "ann")])

    def test_names_that_are_words_of_deeds(self):
        patience = Patience(Core(), 0)
        for deed in (("mast", "tick", 1), ("begin", "tick", 1), ("down", "tick"), ("up", "tick")):
            self.assertEqual(patience.do(deed), ((deed, ()),))
        self.assertEqual(patience.rested, {"tick": 0})
        self.assertEqual(patience.do(("end", "tick")), ((("end", "tick"), ()),))

    def test_wrong_most(self):
        for most in (-1, 1001, True, False, None, "1", 1.0, (1,)):
            core = core_of(START)
            was = core.value()
            with self.assertRaises(BadName) as caught:
                Patience(core, most)
            self.assertIs(caught.exception.name, most)
            self.assertEqual(core.value(), was)
        self.assertEqual([Patience(Core(), most).most for most in (0, 1000)], [0, 1000])

    def test_what_cannot_be_done_changes_nothing(self):
        patience = Patience(core_of(START), 3)
        patience.do(("tick",))
        was = patience.core.value()
        for deed in WRONG:
            with self.assertRaises(BadName):
                patience.do(deed)
            self.assertEqual((patience.core.value(), patience.rested), (was, {"ann": 1}))
        with self.assertRaises(BadName) as caught:
            patience.do(("hear", "ann", 1, ("q",)))
        self.assertEqual(caught.exception.name, "q")

    def test_the_longest_patience(self):
        patience = Patience(core_of(START), 1000)
        for ticks in range(1000):
            self.assertEqual(len(patience.do(("tick",))), 1)
            self.assertEqual(patience.rested, {"ann": ticks + 1})
        self.assertEqual(len(patience.do(("tick",))), 2)


class DrawnPatienceTest(unittest.TestCase):

    def test_drawn_cores(self):
        ended = {}
        for seed in range(300):
            random = Random(3600 + seed)
            row, core, twin = Row(seed), Core(), Core()
            for _ in range(random.choice([0, 0, 8])):
                deed = row.next_deed(core)
                core.do(deed)
                twin.do(deed)
            most = random.choice([0, 1, 1, 2, 3, 5])
            watcher = Watcher(self, core, twin, most)
            watcher.check()
            for _ in range(60):
                draw = random.random()
                if draw < 0.1:
                    with self.assertRaises(BadName):
                        watcher.patience.do(random.choice(WRONG[:5] + [("end", "zed"), ("up", "q")]))
                    watcher.check()
                else:
                    deed = ("tick",) if draw < 0.4 else row.next_deed(core)
                    many = watcher.do(deed)
                    ended[most, many] = ended.get((most, many), 0) + 1
        for most in (0, 1, 2, 3, 5):
            self.assertGreater(ended.get((most, 1), 0), 5, ended)
        self.assertGreater(ended[0, 2], 5)

    def test_the_same_deeds_again(self):
        for seed in range(40):
            row, core = Row(seed), Core()
            patience, deeds, told = Patience(core, 1), [], []
            for at in range(50):
                deeds.append(("tick",) if at % 3 == 0 else row.next_deed(core))
                told.append(patience.do(deeds[-1]))
            was = list(deeds)
            again = Patience(Core(), 1)
            self.assertEqual([again.do(deed) for deed in deeds], told)
            self.assertEqual((deeds, again.core.value()), (was, core.value()))
