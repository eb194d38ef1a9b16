"""[30] to [33]: councils, in which nothing that is settled is ever lost."""

import unittest
from random import Random

from mastcalls.cores import Core, core_of
from mastcalls.councils import Council, core_by
from mastcalls.errors import BadName
from mastcalls.keepers import most_of, settled_at
from tests.rows import Row


def picture(council):
    """All that can be seen of a council."""
    keepers = [(keeper.records, keeper.loose, keeper.waiting) for keeper in council.keepers]
    sequencers = [(one.epoch, one.stand, list(one.row), one.to_send(), one.settled()) for one in council.sequencers]
    return keepers, sequencers, list(council.letters), council.settled()


class CouncilTest(unittest.TestCase):

    def test_the_example(self):
        council = Council(3)
        told = [council.begin(1), council.exchange(0, [0, 1]), council.sequencers[0].add("x"),
                council.exchange(0, [1]), council.settled()]
        self.assertEqual(told, [0, None, None, None, ()])
        told = [council.begin(2), council.exchange(1, [1, 2]), council.sequencers[1].row,
                council.exchange(1, [1, 2]), council.settled()]
        self.assertEqual(told, [1, None, ["x"], None, ("x",)])

    def test_a_new_one(self):
        council = Council(4)
        self.assertEqual([keeper.number for keeper in council.keepers], [0, 1, 2, 3])
        self.assertEqual((council.sequencers, council.letters, council.settled()), ([], [], ()))

    def test_begin(self):
        council = Council(2)
        self.assertEqual([council.begin(epoch) for epoch in (5, 0, 999999999999)], [0, 1, 2])
        self.assertEqual([(one.epoch, one.many) for one in council.sequencers], [(5, 2), (0, 2), (999999999999, 2)])
        for epoch in (5, 0, -1, 1000000000000, True, False, None, "1", (1,), 1.0):
            was = picture(council)
            with self.assertRaises(BadName) as caught:
                council.begin(epoch)
            self.assertIs(caught.exception.name, epoch)
            self.assertEqual(picture(council), was)

    def test_letters_one_by_one(self):
        council = Council(1)
        council.begin(4)
        council.begin(6)
        council.send(0)
        council.send(1)
        council.send(0)
        self.assertEqual(council.letters, [("ask", 4, 0), ("ask", 6, 0), ("ask", 4, 0)])
        council.deliver(0, True)
        self.assertEqual(council.letters, [("ask", 4, 0), ("ask", 6, 0), ("ask", 4, 0)])
        self.assertEqual(council.keepers[0].waiting, (("told", 4, 0, ()),))
        council.lose(2)
        council.deliver(1, False)
        council.flush(0)
        told = [("told", 4, 0, ()), ("told", 6, 0, ())]
        self.assertEqual(council.letters, [("ask", 4, 0)] + told)
        council.deliver(1, True)
        self.assertEqual([one.stand for one in council.sequencers], ["leading", "asking"])
        council.deliver(0, False)
        council.flush(0)
        self.assertEqual(council.letters, told + [("refused", 4, 0, 6)])
        council.deliver(2, False)
        self.assertEqual([one.stand for one in council.sequencers], ["stopped", "asking"])
        council.deliver(1, False)
        council.sequencers[1].add("x")
        council.send(1)
        self.assertEqual(council.letters, [("told", 4, 0, ()), ("write", 6, 0, 0, "x")])
        council.deliver(1, False)
        council.flush(0)
        self.assertEqual((council.letters[1], council.settled()), (("taken", 6, 0, 0), ("x",)))
        self.assertEqual(council.sequencers[1].settled(), ())
        council.deliver(1, False)
        self.assertEqual(council.sequencers[1].settled(), ("x",))

    def test_places_of_letters_that_are_not_there(self):
        council = Council(2)
        council.begin(1)
        council.send(0)
        was = picture(council)
        for at in (2, -1, True, False, None, "0", (0,), 0.0):
            for step, parts in ((council.deliver, (at, True)), (council.deliver, (at, False)), (council.lose, (at,))):
                with self.assertRaises(BadName) as caught:
                    step(*parts)
                self.assertIs(caught.exception.name, at)
                self.assertEqual(picture(council), was)

    def test_fall(self):
        council = Council(2)
        council.begin(1)
        council.send(0)
        council.deliver(0, False)
        for many in (-1, 2, True, None):
            was = picture(council)
            with self.assertRaises(BadName) as caught:
                council.fall(0, many)
            self.assertIs(caught.exception.name, many)
            self.assertEqual(picture(council), was)
        council.fall(0, 1)
        self.assertEqual((council.keepers[0].records, council.keepers[0].waiting), ((("promise", 1),), ()))
        council.flush(0)
        self.assertEqual(council.letters, [("ask", 1, 1)])

    def test_stop(self):
        council = Council(1)
        council.begin(1)
        council.exchange(0, [0])
        council.sequencers[0].add("x")
        council.exchange(0, [0])
        council.stop(0)
        self.assertEqual((council.sequencers[0].stand, council.settled()), ("stopped", ("x",)))
        with self.assertRaises(BadName):
            council.sequencers[0].add("y")
        council.send(0)
        self.assertEqual(council.letters, [])

    def test_in_an_exchange_all_keepers_of_the_list_settle_and_answer(self):
        council = Council(3)
        council.begin(1)
        council.begin(2)
        council.send(0)
        for _ in range(3):
            council.deliver(0, False)
        self.assertEqual(council.sequencers[0].stand, "asking")
        council.stop(1)
        council.exchange(1, [2, 0])
        self.assertEqual([one.stand for one in council.sequencers], ["leading", "stopped"])
        self.assertEqual([keeper.waiting for keeper in council.keepers], [(), (("told", 1, 1, ()),), ()])
        self.assertEqual((council.letters, council.keepers[1].records), ([], ()))

    def test_an_exchange_does_not_touch_letters_on_their_way(self):
        council = Council(1)
        council.begin(1)
        council.send(0)
        council.exchange(0, [0])
        self.assertEqual((council.letters, council.sequencers[0].stand), ([("ask", 1, 0)], "leading"))
        council.exchange(0, [])
        self.assertEqual(council.sequencers[0].stand, "leading")


class DrawnCouncilTest(unittest.TestCase):
    """Whatever is lost, doubled or late, and whoever falls and leads at the same time."""

    def step(self, random, council):
        kind = random.random()
        keeper = random.randrange(len(council.keepers))
        number = random.choice([random.randrange(len(council.sequencers)), len(council.sequencers) - 1])
        if kind < 0.02:
            council.begin(max(one.epoch for one in council.sequencers) + random.randint(1, 3))
        elif kind < 0.03:
            free = [epoch for epoch in range(9) if epoch not in [one.epoch for one in council.sequencers]]
            council.begin(random.choice(free or [99 + len(council.sequencers)]))
        elif kind < 0.15:
            if council.sequencers[number].stand == "leading":
                council.sequencers[number].add("e" + str(random.randint(0, 99)))
        elif kind < 0.35:
            council.send(number)
        elif kind < 0.65:
            if council.letters:
                at = random.choice([0, random.randrange(len(council.letters))])
                council.deliver(at, random.random() < 0.1)
        elif kind < 0.7:
            if council.letters:
                council.lose(random.randrange(len(council.letters)))
        elif kind < 0.85:
            council.flush(keeper)
        elif kind < 0.88:
            council.fall(keeper, random.randint(0, len(council.keepers[keeper].loose)))
        elif kind < 0.885:
            council.stop(number)
        else:
            up = random.sample(range(len(council.keepers)), random.randint(0, len(council.keepers)))
            council.exchange(number, up)

    def check(self, council, row):
        """Holds the facts against the council; the settled row."""
        now = council.settled()
        self.assertEqual(now[:len(row)], row)
        for place in range(len(now) + 3):
            self.assertLessEqual(len(settled_at(council.keepers, place)), 1)
        for sequencer in council.sequencers:
            known = sequencer.settled()
            self.assertEqual(now[:len(known)], known)
        return now

    def take_over(self, random, council, row):
        """A sequencer of a greater epoch than all takes over."""
        many = len(council.keepers)
        number = council.begin(max(one.epoch for one in council.sequencers) + 1)
        up = random.sample(range(many), random.randint(most_of(many), many))
        council.exchange(number, up)
        sequencer = council.sequencers[number]
        self.assertEqual(sequencer.stand, "leading")
        self.assertEqual(tuple(sequencer.row[:len(row)]), row)
        sequencer.add("mine")
        for _ in range(len(sequencer.row)):
            council.exchange(number, up)
        self.assertEqual((council.settled(), sequencer.settled()), (tuple(sequencer.row), tuple(sequencer.row)))
        return council.settled()

    def test_the_settled_row_only_grows(self):
        random = Random(331)
        longest = 0
        leading = 0
        for _ in range(250):
            council = Council(random.randint(1, 5))
            council.begin(random.randint(0, 3))
            row = ()
            for _ in range(120):
                self.step(random, council)
                row = self.check(council, row)
            leading = max(leading, len([one for one in council.sequencers if one.stand == "leading"]))
            row = self.take_over(random, council, row)
            for _ in range(20):
                self.step(random, council)
                row = self.check(council, row)
            longest = max(longest, len(row))
        self.assertGreater(longest, 5)
        self.assertGreater(leading, 1)

    def test_two_that_lead_at_the_same_time(self):
        random = Random(332)
        for _ in range(150):
            council = Council(3)
            council.begin(1)
            council.exchange(0, [0, 1])
            council.begin(2)
            council.exchange(1, [1, 2] if random.random() < 0.5 else [0, 2])
            row = ()
            for _ in range(60):
                number = random.randint(0, 1)
                if council.sequencers[number].stand == "leading" and random.random() < 0.3:
                    council.sequencers[number].add("e" + str(number) + str(random.randint(0, 99)))
                council.send(number)
                for _ in range(random.randint(0, 4)):
                    if council.letters:
                        council.deliver(random.randrange(len(council.letters)), random.random() < 0.1)
                council.flush(random.randint(0, 2))
                row = self.check(council, row)


class CoreByTest(unittest.TestCase):

    def test_entries_that_are_no_deeds_are_counted(self):
        core, barred = core_by(())
        self.assertEqual((core.value(), barred), (Core().value(), 0))
        deeds = [("mast", "a", 1), "x", ("begin", "ann", 1), None, ("begin", "ann", 1), ["tick"], (), ("tick", 1), 7,
                 ("hear", "ann", 0, ("a",)), ("hear", "ann", 1, ("q",)), ("down", "b"), ("tick",), ("nothing",),
                 ("mast", "b", 1001), ("mast", ["b"], 1), ({},)]
        was = list(deeds)
        core, barred = core_by(deeds)
        self.assertEqual(barred, 13)
        done = [deeds[0], deeds[2], deeds[9], deeds[12]]
        self.assertEqual(core.value(), core_of(done).value())
        self.assertEqual(deeds, was)
        self.assertEqual(core_by(tuple(deeds))[0].value(), core.value())

    def test_drawn_deeds(self):
        random = Random(333)
        for seed in range(60):
            row, core, deeds, barred = Row(seed), Core(), [], 0
            for _ in range(30):
                if random.random() < 0.3:
                    deeds.append(random.choice(["x", ("up", "q"), ("mast", "a", -1), ("end", "zed"), ("tick", "tock")]))
                    barred += 1
                else:
                    deeds.append(row.next_deed(core))
                    core.do(deeds[-1])
            told = core_by(deeds)
            self.assertEqual((told[0].value(), told[1]), (core.value(), barred))

    def test_the_core_behind_a_settled_row(self):
        council = Council(3)
        council.begin(1)
        council.exchange(0, [0, 2])
        deeds = (("mast", "a", 1), ("begin", "ann", 1), ("mast", "a", 2), ("hear", "ann", 0, ("a",)))
        for deed in deeds:
            council.sequencers[0].add(deed)
        for _ in deeds:
            council.exchange(0, [2, 1])
        core, barred = core_by(council.settled())
        self.assertEqual((council.settled(), core.seats_now(), barred), (deeds, {"ann": "a"}, 1))
