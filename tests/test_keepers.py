"""[30], [31]: keepers, and what is settled."""

import unittest
from random import Random

from mastcalls.errors import BadName
from mastcalls.keepers import Keeper, most_of, settled_at, settled_row


class ByHand:
    """What a keeper must be, letter by letter, by the words of the document."""

    def __init__(self, number):
        self.number = number
        self.settled, self.loose, self.waiting = [], [], []

    def epoch(self):
        return max([-1] + [record[1] for record in self.settled + self.loose])

    def row(self):
        row = {}
        for record in self.settled + self.loose:
            if record[0] == "take":
                row[record[2]] = (record[1], record[3])
        return [row[place] for place in range(len(row))]

    def handle(self, letter):
        mine, row = self.epoch(), self.row()
        if letter[1] < mine:
            self.waiting.append(("refused", letter[1], self.number, mine))
            return
        if letter[0] == "ask":
            if letter[1] > mine:
                self.loose.append(("promise", letter[1]))
            self.waiting.append(("told", letter[1], self.number, tuple(row)))
            return
        _, epoch, _, place, entry = letter
        if place > len(row) or (place != 0 and row[place - 1][0] != epoch):
            return
        if row[place:place + 1] != [(epoch, entry)]:
            self.loose.append(("take", epoch, place, entry))
        self.waiting.append(("taken", epoch, self.number, place))

    def flush(self):
        told, self.waiting = tuple(self.waiting), []
        self.settled, self.loose = self.settled + self.loose, []
        return told

    def fall(self, many):
        self.settled, self.loose, self.waiting = self.settled + self.loose[:many], [], []


def keeper_with(number, records):
    """A keeper with such records on its disk."""
    keeper = Keeper(number)
    keeper.records = tuple(records)
    return keeper


class KeeperTest(unittest.TestCase):

    def picture(self, keeper):
        known = keeper.kept()
        return keeper.number, keeper.records, keeper.loose, keeper.waiting, known.epoch, known.row

    def test_a_new_one(self):
        self.assertEqual(self.picture(Keeper(4)), (4, (), (), (), -1, []))
        self.assertEqual(Keeper(4).flush(), ())

    def test_asks(self):
        keeper = Keeper(2)
        self.assertIsNone(keeper.handle(("ask", 0, 2)))
        self.assertEqual((keeper.loose, keeper.waiting), ((("promise", 0),), (("told", 0, 2, ()),)))
        keeper.handle(("ask", 5, 2))
        keeper.handle(("ask", 5, 2))
        keeper.handle(("ask", 3, 2))
        self.assertEqual(keeper.loose, (("promise", 0), ("promise", 5)))
        self.assertEqual(keeper.records, ())
        told = (("told", 0, 2, ()), ("told", 5, 2, ()), ("told", 5, 2, ()), ("refused", 3, 2, 5))
        self.assertEqual(keeper.waiting, told)
        self.assertEqual(keeper.flush(), told)
        self.assertEqual(self.picture(keeper), (2, (("promise", 0), ("promise", 5)), (), (), 5, []))

    def test_writes(self):
        keeper = Keeper(0)
        keeper.handle(("write", 3, 0, 1, "y"))
        self.assertEqual((keeper.loose, keeper.waiting), ((), ()))
        keeper.handle(("write", 3, 0, 0, "x"))
        keeper.handle(("write", 3, 0, 0, "x"))
        keeper.handle(("write", 3, 0, 1, "y"))
        keeper.handle(("write", 3, 0, 3, "z"))
        self.assertEqual(keeper.loose, (("take", 3, 0, "x"), ("take", 3, 1, "y")))
        self.assertEqual(keeper.flush(), (("taken", 3, 0, 0), ("taken", 3, 0, 0), ("taken", 3, 0, 1)))
        keeper.handle(("write", 4, 0, 2, "z"))
        self.assertEqual((keeper.loose, keeper.waiting), ((), ()))
        keeper.handle(("write", 2, 0, 0, "z"))
        keeper.handle(("write", 4, 0, 0, "x"))
        self.assertEqual(keeper.waiting, (("refused", 2, 0, 3), ("taken", 4, 0, 0)))
        self.assertEqual((keeper.kept().epoch, keeper.kept().row), (4, [(4, "x"), (3, "y")]))
        keeper.handle(("ask", 4, 0))
        self.assertEqual(keeper.loose, (("take", 4, 0, "x"),))
        self.assertEqual(keeper.waiting[2], ("told", 4, 0, ((4, "x"), (3, "y"))))

    def test_which_keeper_a_letter_names_is_not_looked_at(self):
        keeper = Keeper(1)
        keeper.handle(("ask", 1, 7))
        keeper.handle(("write", 1, 9, 0, "x"))
        self.assertEqual(keeper.waiting, (("told", 1, 1, ()), ("taken", 1, 1, 0)))

    def test_what_stands_behind_the_place_of_a_take_stays(self):
        records = [("take", 1, 0, "x"), ("take", 1, 1, "y"), ("take", 1, 2, "z"), ("promise", 7), ("take", 3, 1, "w")]
        known = keeper_with(0, records).kept()
        self.assertEqual((known.epoch, known.row), (7, [(1, "x"), (3, "w"), (1, "z")]))

    def test_what_kept_tells_is_no_part_of_the_keeper(self):
        keeper = keeper_with(0, [("take", 1, 0, "x")])
        keeper.kept().row.append("y")
        self.assertEqual(keeper.kept().row, [(1, "x")])

    def test_falls(self):
        for many in range(4):
            keeper = Keeper(0)
            keeper.handle(("ask", 1, 0))
            keeper.flush()
            keeper.handle(("write", 1, 0, 0, "x"))
            keeper.handle(("write", 1, 0, 1, "y"))
            keeper.handle(("ask", 2, 0))
            loose = keeper.loose
            self.assertEqual(len(loose), 3)
            keeper.fall(many)
            self.assertEqual((keeper.records, keeper.loose, keeper.waiting), ((("promise", 1),) + loose[:many], (), ()))
            self.assertEqual(keeper.flush(), ())

    def test_bad_falls_change_nothing(self):
        keeper = Keeper(0)
        with self.assertRaises(BadName):
            keeper.fall(1)
        keeper.handle(("ask", 1, 0))
        was = self.picture(keeper)
        for many in (-1, 2, True, False, None, "1", (1,), 1.0):
            with self.assertRaises(BadName) as caught:
                keeper.fall(many)
            self.assertIs(caught.exception.name, many)
            self.assertEqual(self.picture(keeper), was)

    def test_drawn_letters(self):
        random = Random(301)
        seen = set()
        for _ in range(300):
            keeper, other = Keeper(3), ByHand(3)
            for _ in range(40):
                epoch = random.choice([0, 1, 2, 3, 3, 4])
                kind = random.random()
                if kind < 0.2:
                    letter = ("ask", epoch, 3)
                elif kind < 0.8:
                    letter = ("write", epoch, 3, random.randint(0, 4), random.choice(["x", "y", ("tick",)]))
                if kind < 0.8:
                    self.assertIsNone(keeper.handle(letter))
                    other.handle(letter)
                elif kind < 0.93:
                    told = keeper.flush()
                    self.assertIsInstance(told, tuple)
                    self.assertEqual(told, other.flush())
                    seen |= {answer[0] for answer in told}
                else:
                    many = random.randint(0, len(keeper.loose))
                    keeper.fall(many)
                    other.fall(many)
                self.assertEqual(self.picture(keeper), (3, tuple(other.settled), tuple(other.loose),
                                                        tuple(other.waiting), other.epoch(), other.row()))
        self.assertEqual(seen, {"told", "refused", "taken"})


class SettledTest(unittest.TestCase):

    def test_most_of(self):
        self.assertEqual([most_of(many) for many in range(1, 9)], [1, 2, 2, 3, 3, 4, 4, 5])

    def test_most_must_have_the_same_take(self):
        x, later, y = ("take", 1, 0, "x"), ("take", 2, 0, "x"), ("take", 1, 1, "y")
        keepers = [keeper_with(at, []) for at in range(3)]
        self.assertEqual((settled_at(keepers, 0), settled_row(keepers)), ([], ()))
        keepers[0].records = (x, y)
        keepers[1].records = (later, ("promise", 1))
        self.assertEqual((settled_at(keepers, 0), settled_row(keepers)), ([], ()))
        keepers[2].records = (x,)
        self.assertEqual((settled_at(keepers, 0), settled_row(keepers)), (["x"], ("x",)))
        keepers[1].records = (later, y)
        self.assertEqual((settled_at(keepers, 1), settled_row(keepers)), (["y"], ("x", "y")))

    def test_also_takes_that_others_were_written_over(self):
        takes = [("take", 1, 0, "x"), ("take", 2, 0, "y")]
        keepers = [keeper_with(0, takes), keeper_with(1, takes[:1]), keeper_with(2, takes[1:])]
        self.assertEqual(sorted(settled_at(keepers, 0)), ["x", "y"])
        takes = [("take", 1, 0, "x"), ("take", 2, 0, "x")]
        keepers = [keeper_with(0, takes), keeper_with(1, takes)]
        self.assertEqual((settled_at(keepers, 0), settled_row(keepers)), (["x"], ("x",)))

    def test_loose_takes_do_not_count(self):
        keepers = [Keeper(0), Keeper(1)]
        for keeper in keepers:
            keeper.handle(("write", 1, 0, 0, "x"))
        self.assertEqual(settled_row(keepers), ())
        keepers[0].flush()
        self.assertEqual((settled_at(keepers, 0), settled_row(keepers)), ([], ()))
        keepers[1].flush()
        self.assertEqual((settled_at(keepers, 0), settled_row(keepers)), (["x"], ("x",)))

    def test_up_to_the_first_place_without_any(self):
        records = [("take", 1, 0, "x"), ("take", 1, 1, "x"), ("take", 1, 3, "y")]
        keepers = [keeper_with(0, records)]
        self.assertEqual((settled_row(keepers), settled_at(keepers, 3)), (("x", "x"), ["y"]))
        self.assertEqual(settled_row([keeper_with(0, records[1:])]), ())

    def test_drawn_records(self):
        random = Random(311)
        for _ in range(400):
            keepers = []
            for at in range(random.randint(1, 5)):
                takes = [("take", random.randint(1, 2), random.randint(0, 2), random.choice("xy")) for _ in range(6)]
                keepers.append(keeper_with(at, [("promise", 1)] + takes))
            was = [keeper.records for keeper in keepers]
            row = []
            for place in range(4):
                there = set()
                for epoch in (1, 2):
                    for entry in "xy":
                        many = [keeper for keeper in keepers if ("take", epoch, place, entry) in keeper.records]
                        there |= {entry} if 2 * len(many) > len(keepers) else set()
                told = settled_at(keepers, place)
                self.assertIsInstance(told, list)
                self.assertEqual(sorted(told), sorted(there))
                if len(row) == place and told:
                    row.append(told[0])
            self.assertEqual(settled_row(keepers), tuple(row))
            self.assertEqual([keeper.records for keeper in keepers], was)
