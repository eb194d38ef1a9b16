"""[32]: sequencers."""

import unittest
from random import Random

from mastcalls.errors import BadName
from mastcalls.sequencers import Sequencer


def picture(sequencer):
    """All that can be seen of a sequencer."""
    return (sequencer.epoch, sequencer.many, sequencer.stand, list(sequencer.row), sequencer.to_send(),
            sequencer.settled())


def leading(many, rows, epoch=5):
    """A sequencer to which so many keepers have told rows."""
    sequencer = Sequencer(epoch, many)
    for number, row in enumerate(rows):
        sequencer.hear(("told", epoch, number, tuple(row)))
    return sequencer


class AskingTest(unittest.TestCase):

    def test_a_new_one(self):
        sequencer = Sequencer(7, 3)
        self.assertEqual(picture(sequencer), (7, 3, "asking", [], (("ask", 7, 0), ("ask", 7, 1), ("ask", 7, 2)), ()))

    def test_once_most_have_told_it_leads(self):
        for many, most in ((1, 1), (2, 2), (3, 2), (4, 3), (5, 3)):
            sequencer = Sequencer(1, many)
            for number in range(many - 1, many - 1 - most, -1):
                self.assertEqual(sequencer.stand, "asking")
                asks = tuple(("ask", 1, other) for other in range(number + 1))
                self.assertEqual(sequencer.to_send(), asks)
                sequencer.hear(("told", 1, number, ()))
            self.assertEqual((sequencer.stand, sequencer.row, sequencer.to_send()), ("leading", [], ()))

    def test_one_keeper_that_tells_twice_is_one(self):
        sequencer = Sequencer(1, 3)
        sequencer.hear(("told", 1, 2, ()))
        sequencer.hear(("told", 1, 2, ()))
        self.assertEqual((sequencer.stand, sequencer.to_send()), ("asking", (("ask", 1, 0), ("ask", 1, 1))))

    def test_the_greatest_epoch_at_each_place_up_to_the_longest_end(self):
        self.assertEqual(leading(3, [[(1, "x"), (1, "y")], [(2, "z")]]).row, ["z", "y"])
        self.assertEqual(leading(3, [[(2, "z")], [(1, "x"), (1, "y")]]).row, ["z", "y"])
        self.assertEqual(leading(5, [[], [(3, "x"), (1, "y")], [(3, "x"), (2, "w"), (0, "v")]]).row, ["x", "w", "v"])
        self.assertEqual(leading(1, [[(4, ("tick",)), (4, ("tick",))]]).row, [("tick",), ("tick",)])

    def test_rows_told_later_do_not_count(self):
        sequencer = leading(3, [[(1, "x")], []])
        sequencer.hear(("told", 5, 2, ((2, "y"), (2, "z"))))
        sequencer.hear(("told", 5, 0, ((3, "y"),)))
        self.assertEqual((sequencer.row, sequencer.stand), (["x"], "leading"))

    def test_taken_does_not_count_yet(self):
        sequencer = Sequencer(5, 1)
        sequencer.hear(("taken", 5, 0, 0))
        sequencer.hear(("told", 5, 0, ((1, "x"),)))
        self.assertEqual(picture(sequencer), (5, 1, "leading", ["x"], (("write", 5, 0, 0, "x"),), ()))


class LeadingTest(unittest.TestCase):

    def test_one_entry_behind_the_other(self):
        sequencer = leading(3, [[(1, "x"), (1, "y")], []])
        first = (("write", 5, 0, 0, "x"), ("write", 5, 1, 0, "x"), ("write", 5, 2, 0, "x"))
        self.assertEqual(sequencer.to_send(), first)
        self.assertEqual(sequencer.to_send(), first)
        sequencer.hear(("taken", 5, 1, 0))
        self.assertEqual(sequencer.to_send(), (first[0], ("write", 5, 1, 1, "y"), first[2]))
        self.assertEqual(sequencer.settled(), ())
        sequencer.hear(("taken", 5, 1, 1))
        self.assertEqual((sequencer.to_send(), sequencer.settled()), ((first[0], first[2]), ()))
        sequencer.hear(("taken", 5, 2, 0))
        self.assertEqual(sequencer.settled(), ("x",))
        sequencer.hear(("taken", 5, 2, 1))
        self.assertEqual((sequencer.to_send(), sequencer.settled()), (first[:1], ("x", "y")))

    def test_only_the_next_place_of_a_keeper_counts(self):
        sequencer = leading(1, [[(1, "x"), (1, "y"), (1, "z")]])
        sequencer.hear(("taken", 5, 0, 1))
        self.assertEqual(sequencer.to_send(), (("write", 5, 0, 0, "x"),))
        sequencer.hear(("taken", 5, 0, 0))
        sequencer.hear(("taken", 5, 0, 0))
        self.assertEqual(sequencer.to_send(), (("write", 5, 0, 1, "y"),))
        self.assertEqual(sequencer.settled(), ("x",))

    def test_add(self):
        sequencer = leading(1, [[(1, "x")]])
        self.assertIsNone(sequencer.add(("tick",)))
        self.assertEqual(sequencer.row, ["x", ("tick",)])
        sequencer.hear(("taken", 5, 0, 0))
        self.assertEqual(sequencer.to_send(), (("write", 5, 0, 1, ("tick",)),))

    def test_add_unless_it_leads(self):
        stopped = leading(1, [[(1, "x")]])
        stopped.hear(("refused", 5, 0, 9))
        for sequencer in (Sequencer(1, 2), stopped):
            was = picture(sequencer)
            for entry in ("x", ("tick",), None):
                with self.assertRaises(BadName) as caught:
                    sequencer.add(entry)
                self.assertEqual(caught.exception.name, entry)
            self.assertEqual(picture(sequencer), was)

    def test_refused(self):
        for sequencer in (Sequencer(5, 3), leading(3, [[(1, "x")], []])):
            sequencer.hear(("refused", 5, 0, 6))
            self.assertEqual((sequencer.stand, sequencer.to_send()), ("stopped", ()))
            was = picture(sequencer)
            for number in range(3):
                sequencer.hear(("told", 5, number, ((1, "z"),)))
                sequencer.hear(("taken", 5, number, 0))
            self.assertEqual(picture(sequencer), was)

    def test_answers_of_other_epochs_do_not_count(self):
        for sequencer in (Sequencer(5, 1), leading(1, [[(1, "x")]])):
            was = picture(sequencer)
            for epoch in (4, 6):
                for letter in (("refused", epoch, 0, 9), ("told", epoch, 0, ()), ("taken", epoch, 0, 0)):
                    sequencer.hear(letter)
            self.assertEqual(picture(sequencer), was)

    def test_what_was_settled_stays_when_it_stops(self):
        sequencer = leading(1, [[(1, "x")]])
        sequencer.hear(("taken", 5, 0, 0))
        sequencer.hear(("refused", 5, 0, 9))
        self.assertEqual((sequencer.row, sequencer.settled()), (["x"], ("x",)))


class DrawnAnswersTest(unittest.TestCase):

    def next_row(self, rows):
        longest = max(len(row) for row in rows)
        return [max(row[place] for row in rows if place < len(row))[1] for place in range(longest)]

    def test_drawn_answers(self):
        random = Random(321)
        for _ in range(400):
            many = random.randint(1, 5)
            sequencer = Sequencer(3, many)
            stand, rows, row, taken = "asking", {}, [], [0] * many
            for _ in range(40):
                number, epoch = random.randrange(many), random.choice([3] * 9 + [2, 4])
                kind = random.random()
                if kind < 0.3:
                    # Of one epoch and place there is one entry.
                    told = tuple((other, (other, at)) for at, other in enumerate(random.choices((0, 1, 2), k=2)))
                    letter = ("told", epoch, number, told[:random.randint(0, 2)])
                    if epoch == 3 and stand == "asking" and number not in rows:
                        rows[number] = letter[3]
                        if 2 * len(rows) > many:
                            stand, row = "leading", self.next_row(list(rows.values()))
                elif kind < 0.8:
                    place = max(0, min(taken[number] + random.choice([-1, 0, 0, 1]), len(row)))
                    letter = ("taken", epoch, number, place)
                    if letter[3] == taken[number] == len(row):
                        continue
                    taken[number] += epoch == 3 and stand == "leading" and letter[3] == taken[number]
                elif kind < 0.82:
                    letter = ("refused", epoch, number, 7)
                    stand = "stopped" if epoch == 3 else stand
                else:
                    if stand == "leading":
                        sequencer.add(len(row))
                        row = row + [len(row)]
                    continue
                if letter[0] == "told" and number in rows and stand == "asking" and letter[3] != rows[number]:
                    continue
                sequencer.hear(letter)
                counts = sorted(taken)
                settled = tuple(row[:counts[many - many // 2 - 1]])
                sent = ()
                if stand == "asking":
                    sent = tuple(("ask", 3, other) for other in range(many) if other not in rows)
                elif stand == "leading":
                    sent = tuple(("write", 3, other, taken[other], row[taken[other]]) for other in range(many)
                                 if taken[other] < len(row))
                self.assertEqual(picture(sequencer), (3, many, stand, row, sent, settled))
