"""[37]: what came of a row of deeds, and what would be otherwise without each of them."""

import unittest
from random import Random

from mastcalls.cores import Core
from mastcalls.errors import BadName
from mastcalls.histories import blame, changed_without, gone_in, history, lost_without, told_by
from tests.rows import Row

ROW = (("mast", "a", 1), ("begin", "ann", 1), ("hear", "ann", 1, ("a",)), ("begin", "ben", 2), ("tick", 1),
       ("hear", "ben", 2, ("a",)), ("end", "ben"), ("end", "ben"), ("begin", "ann", 1), ("tick",))
WRONG = ["x", None, 7, (), ("tick", "tock"), ["tick"], {}, ("up", "q"), ("mast", "A", 1), ("end", "zed"), ("hear",),
         ("begin", ["ann"], 1), ("mast", "b", 1001), ("tock",), ({},), ("down", ("a",))]


def mixed_row(seed, many=30, wrong=0.2, most_calls=4):
    """A row of deeds, some of which can't be done, some of which are none."""
    random, row, core, deeds = Random(3700 + seed), Row(seed, most_calls), Core(), []
    while len(deeds) < many:
        draw = random.random()
        if draw < wrong / 2:
            deeds.append(random.choice(WRONG))
        elif draw < wrong and deeds:
            deeds.append(random.choice(deeds))
        else:
            deeds.append(row.next_deed(core))
        try:
            core.do(deeds[-1])
        except BadName:
            pass
    return deeds


def told_by_hand(deeds):
    """For each deed its number, the calls and masts of all seats ahead of it, and what came of it."""
    core, told = Core(), []
    for number, deed in enumerate(deeds):
        before = {name: (line.mast, line.epoch) for name, line in core.lines.items()}
        try:
            events = core.do(deed)
        except BadName:
            events = None
        told.append((number, before, events))
    return told


def lost_by_hand(deeds):
    """The calls that are given up."""
    return {event[1] for _, _, events in told_by_hand(deeds) for event in events or () if event[0] == "gone"}


class ExampleTest(unittest.TestCase):

    def test_told_by(self):
        self.assertEqual(told_by(ROW), [
            (), (), (("seat", "ann", "a", 1), ("list", "a", 1, (("ann", 1),))), (), None,
            (("gone", "ann", ("ann", "ben")), ("seat", "ben", "a", 2), ("list", "a", 2, (("ben", 2),))),
            (("list", "a", 3, ()),), None, None, ()])
        self.assertEqual((told_by(()), told_by([])), ([], []))
        self.assertEqual(told_by(WRONG), [None] * len(WRONG))

    def test_history(self):
        self.assertEqual(history(ROW, "ann"), [(2, ("seat", "ann", "a", 1)), (5, ("gone", "ann", ("ann", "ben")))])
        self.assertEqual(history(ROW, "ben"), [(5, ("seat", "ben", "a", 2)), (6, ("end", "ben"))])
        for call in ("a", "zed", "mast", ""):
            self.assertEqual(history(ROW, call), [])
        self.assertEqual(history((), "ann"), [])

    def test_a_rest_stands_in_it_and_a_mast_of_that_name_does_not(self):
        deeds = [("mast", "ann", 1), ("begin", "ann", 0), ("hear", "ann", 1, ("ann",)), ("down", "ann"), ("end", "ann")]
        self.assertEqual(history(deeds, "ann"), [(2, ("seat", "ann", "ann", 1)), (3, ("rest", "ann")),
                                                 (4, ("end", "ann"))])

    def test_blame(self):
        self.assertEqual(blame(ROW, "ann"), (5, (("ann", 2), ("ben", None))))
        for call in ("ben", "zed", "a"):
            self.assertIsNone(blame(ROW, call))
        self.assertIsNone(blame((), "ann"))

    def test_blame_names_the_seat_just_ahead_of_the_deed(self):
        deeds = [("mast", "a", 1), ("mast", "b", 1), ("begin", "ann", 1), ("hear", "ann", 1, ("a",)),
                 ("hear", "ann", 2, ("b",)), ("hear", "ann", 3, ()), ("begin", "ben", 2), ("hear", "ben", 1, ("b",)),
                 ("hear", "ben", 2, ("a",)), ("tick",), ("hear", "ann", 4, ("a",))]
        self.assertEqual(blame(deeds, "ann"), (10, (("ann", None), ("ben", 8))))
        # Without the report by which ann rests, ben comes to where ann is.
        self.assertEqual(blame(deeds[:5] + deeds[6:], "ann"), (6, (("ann", 4), ("ben", None))))

    def test_masts_with_the_names_of_calls(self):
        deeds = [("mast", "ann", 1), ("mast", "ben", 1), ("begin", "ann", 1), ("hear", "ann", 1, ("ben",)),
                 ("begin", "cat", 1), ("hear", "cat", 1, ("ann",)), ("begin", "ben", 2), ("hear", "ben", 1, ("ben",))]
        self.assertEqual(told_by(deeds)[5][1][:2], ("list", "ann"))
        self.assertEqual(blame(deeds, "ann"), (7, (("ann", 3), ("ben", None))))
        self.assertEqual(history(deeds, "ann"), [(3, ("seat", "ann", "ben", 1)), (7, ("gone", "ann", ("ann", "ben")))])
        self.assertEqual(gone_in(deeds), ["ann"])

    def test_changed_without(self):
        self.assertEqual(changed_without(ROW, 3), [5, 6])
        self.assertEqual(changed_without(ROW, 4), [])
        self.assertEqual(changed_without(ROW, 9), [])
        self.assertEqual(changed_without(ROW, 0), [2, 5, 6])
        self.assertEqual(changed_without(ROW, 6), [7])
        self.assertEqual(changed_without((("tick",),), 0), [])

    def test_none_and_nothing_are_unlike(self):
        self.assertEqual(changed_without((("begin", "ann", 1), ("begin", "ann", 1)), 0), [1])
        self.assertEqual(changed_without((("begin", "ann", 1), ("end", "ann")), 0), [1])

    def test_lost_without(self):
        self.assertEqual(lost_without(ROW, 3), (("ann",), ()))
        self.assertEqual(lost_without(ROW, 9), ((), ()))
        deeds = list(ROW[:4]) + [("end", "ann"), ("begin", "cat", 0), ("hear", "cat", 1, ("a",)), ROW[5]]
        self.assertEqual(lost_without(deeds, 4), ((), ("ann",)))
        self.assertEqual(lost_without(deeds, 7), (("cat",), ()))
        self.assertEqual(gone_in(deeds), ["cat"])

    def test_gone_in(self):
        self.assertEqual((gone_in(ROW), gone_in(()), gone_in(WRONG)), (["ann"], [], []))


class DrawnHistoryTest(unittest.TestCase):

    def test_what_came_of_each(self):
        seen = {"none": 0, "nothing": 0}
        for seed in range(150):
            deeds = mixed_row(seed)
            was = list(deeds)
            told = told_by(deeds)
            self.assertEqual(told, [events for _, _, events in told_by_hand(deeds)])
            self.assertEqual((told_by(tuple(deeds)), deeds), (told, was))
            self.assertEqual(gone_in(deeds), sorted(lost_by_hand(deeds)))
            seen["none"] += told.count(None)
            seen["nothing"] += told.count(())
        self.assertGreater(min(seen.values()), 500)

    def test_histories_and_blame(self):
        blamed, ends = [], 0
        for seed in range(150):
            deeds = mixed_row(seed, 45)
            by_hand = told_by_hand(deeds)
            for call in ["c" + str(at) for at in range(30)] + ["zed", "a"]:
                pairs, lost = [], None
                for number, before, events in by_hand:
                    for event in events or ():
                        if event[0] in ("seat", "rest", "gone") and event[1] == call:
                            pairs.append((number, event))
                        if event[0] == "gone" and event[1] == call:
                            lost = number, before, event[2]
                    if deeds[number] == ("end", call) and events is not None:
                        pairs.append((number, ("end", call)))
                        ends += 1
                self.assertEqual(history(deeds, call), pairs)
                self.assertEqual(blame(deeds, call), self.blame_by_epochs(by_hand, lost))
                if lost is not None:
                    blamed += [at for _, at in blame(deeds, call)[1]]
        self.assertGreater(ends, 30)
        self.assertGreater(len([at for at in blamed if at is not None]), 100)
        self.assertGreater(len([at for at in blamed if at is None]), 100)

    def blame_by_epochs(self, by_hand, lost):
        """The blame, seats being found by the epochs that they have."""
        if lost is None:
            return None
        number, before, paper = lost
        seated = {event[3]: at for at, _, events in by_hand for event in events or () if event[0] == "seat"}
        rows = []
        for name in paper:
            mast, epoch = before[name]
            rows.append((name, None if mast is None else seated[epoch]))
        return number, tuple(rows)

    def test_without_each_of_the_deeds(self):
        changed, more, fewer = 0, 0, 0
        for seed in range(80):
            deeds = mixed_row(seed, 22, most_calls=5)
            was = list(deeds)
            told = [events for _, _, events in told_by_hand(deeds)]
            for at in range(len(deeds)):
                others = deeds[:at] + deeds[at + 1:]
                numbers = [number for number in range(len(deeds)) if number != at]
                unlike = [number for number, (_, _, events) in zip(numbers, told_by_hand(others))
                          if events != told[number]]
                self.assertEqual(changed_without(deeds, at), unlike)
                lost, left = lost_by_hand(deeds), lost_by_hand(others)
                self.assertEqual(lost_without(deeds, at), (tuple(sorted(lost - left)), tuple(sorted(left - lost))))
                changed += bool(unlike)
                more += bool(left - lost)
                fewer += bool(lost - left)
                self.assertEqual(deeds, was)
        self.assertGreater(min(changed, more, fewer), 20, (changed, more, fewer))
