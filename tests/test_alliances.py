"""[34]: lists hang on the settled row alone, however many lead at once."""

import unittest
from random import Random

from mastcalls.alliances import Alliance, lists_of
from mastcalls.cores import Core, core_of
from mastcalls.councils import core_by
from mastcalls.errors import BadName
from tests.rows import Row

DEEDS = (("mast", "b", 1), ("mast", "a", 1), ("begin", "ann", 1), ("hear", "ann", 1, ("a", "b")),
         ("begin", "ben", 1), ("hear", "ben", 1, ("a",)))


def settle(alliance, number, deeds, up):
    """A sequencer leads deeds to some keepers."""
    for deed in deeds:
        alliance.council.sequencers[number].add(deed)
        alliance.council.exchange(number, up)


def picture(alliance):
    """All that can be seen of an alliance beside its council."""
    masts = [(name, mast.name, mast.number, dict(mast.rows)) for name, mast in alliance.masts.items()]
    return masts, list(alliance.lists), alliance.council.settled()


class ListsTest(unittest.TestCase):

    def test_lists_of(self):
        first = ("list", "a", 1, (("ann", 1),))
        self.assertEqual(lists_of(DEEDS[:4]), [first])
        self.assertEqual(lists_of(DEEDS), [first, ("list", "a", 2, (("ben", 3),)), ("list", "b", 3, (("ann", 2),))])
        self.assertEqual((lists_of(()), lists_of(DEEDS[:3]), lists_of([None, "x", ("tick",)])), ([], [], []))

    def test_deeds_that_cannot_be_done_are_left_out(self):
        mixed = []
        for deed in DEEDS:
            mixed += [deed, deed, "x", ("end", "zed"), None, ("hear", "ann", 1, ("q",)), ["tick"]]
        was = list(mixed)
        self.assertEqual(lists_of(mixed), lists_of(DEEDS))
        self.assertEqual(mixed, was)

    def test_drawn_rows(self):
        for seed in range(60):
            row, core, deeds, lists = Row(seed), Core(), [], []
            for _ in range(40):
                deeds.append(row.next_deed(core))
                lists += [event for event in core.do(deeds[-1]) if event[0] == "list"]
            self.assertEqual(lists_of(deeds), lists)
            self.assertEqual(lists_of(tuple(deeds)), lists)


class AllianceTest(unittest.TestCase):

    def test_a_new_one(self):
        alliance = Alliance(3)
        self.assertEqual((len(alliance.council.keepers), alliance.masts, alliance.lists), (3, {}, []))
        self.assertEqual(alliance.settled_core().value(), Core().value())

    def test_the_last_list_of_each_mast_by_masts(self):
        alliance = Alliance(1)
        alliance.council.begin(1)
        alliance.publish(0)
        self.assertEqual(alliance.lists, [])
        alliance.council.exchange(0, [0])
        settle(alliance, 0, DEEDS[:4], [0])
        self.assertEqual(alliance.lists, [])
        alliance.publish(0)
        first = ("list", "a", 1, (("ann", 1),))
        self.assertEqual((alliance.lists, alliance.masts), ([first], {}))
        settle(alliance, 0, DEEDS[4:], [0])
        alliance.publish(0)
        others = [("list", "a", 2, (("ben", 3),)), ("list", "b", 3, (("ann", 2),))]
        self.assertEqual(alliance.lists, [first] + others)
        self.assertEqual(alliance.settled_core().value(), core_of(DEEDS).value())

    def test_only_what_is_known_to_be_settled(self):
        alliance = Alliance(3)
        alliance.council.begin(1)
        alliance.council.exchange(0, [0, 1])
        settle(alliance, 0, DEEDS[:4], [0])
        alliance.publish(0)
        self.assertEqual((alliance.lists, alliance.council.settled()), ([], ()))
        for _ in range(4):
            alliance.council.exchange(0, [2])
        alliance.publish(0)
        self.assertEqual(alliance.lists, [("list", "a", 1, (("ann", 1),))])

    def test_masts_come_to_be_with_their_first_list(self):
        alliance = Alliance(1)
        alliance.council.begin(1)
        alliance.council.exchange(0, [0])
        settle(alliance, 0, DEEDS, [0])
        alliance.publish(0)
        alliance.deliver(1, False)
        self.assertEqual(picture(alliance)[0], [("b", "b", 3, {"ann": 2})])
        alliance.deliver(0, True)
        self.assertEqual(picture(alliance)[0], [("a", "a", 2, {"ben": 3}), ("b", "b", 3, {"ann": 2})])
        self.assertEqual(len(alliance.lists), 1)
        alliance.lose(0)
        self.assertEqual(alliance.lists, [])

    def test_an_older_list_that_comes_late(self):
        alliance = Alliance(1)
        alliance.council.begin(1)
        alliance.council.exchange(0, [0])
        settle(alliance, 0, DEEDS[:4], [0])
        alliance.publish(0)
        settle(alliance, 0, DEEDS[4:], [0])
        alliance.publish(0)
        for at in (1, 0, 0):
            alliance.deliver(at, True)
        self.assertEqual(picture(alliance)[0], [("a", "a", 2, {"ben": 3})])

    def test_places_of_lists_that_are_not_there(self):
        alliance = Alliance(1)
        alliance.council.begin(1)
        alliance.council.exchange(0, [0])
        settle(alliance, 0, DEEDS, [0])
        alliance.publish(0)
        was = picture(alliance)
        for at in (2, -1, True, False, None, "0", (0,), 0.0):
            for step, parts in ((alliance.deliver, (at, True)), (alliance.deliver, (at, False)), (alliance.lose, (at,))):
                with self.assertRaises(BadName) as caught:
                    step(*parts)
                self.assertIs(caught.exception.name, at)
                self.assertEqual(picture(alliance), was)
        with self.assertRaises(BadName):
            Alliance(1).lose(0)

    def test_asked_again(self):
        alliance = Alliance(3)
        alliance.council.begin(1)
        alliance.council.exchange(0, [0, 2])
        settle(alliance, 0, DEEDS, [0, 2])
        alliance.publish(0)
        lists = list(alliance.lists)
        alliance.publish(0)
        self.assertEqual(alliance.lists, lists + lists)
        self.assertEqual(alliance.settled_core().value(), alliance.settled_core().value())


class DrawnAllianceTest(unittest.TestCase):
    """Several who lead at once; lists lost, doubled and in any order."""

    def entry(self, random, row, sequencer):
        """A deed that fits the sequencer's row, or what is none."""
        if random.random() < 0.1:
            return random.choice(["x", None, ("end", "zed"), ("mast", "a", -1)])
        return row.next_deed(core_by(sequencer.row)[0])

    def step(self, random, alliance, row):
        council = alliance.council
        kind = random.random()
        number = random.choice([random.randrange(len(council.sequencers)), len(council.sequencers) - 1])
        keeper = random.randrange(len(council.keepers))
        if kind < 0.02:
            council.begin(max(one.epoch for one in council.sequencers) + random.randint(1, 2))
        elif kind < 0.3:
            if council.sequencers[number].stand == "leading":
                council.sequencers[number].add(self.entry(random, row, council.sequencers[number]))
        elif kind < 0.65:
            many = len(council.keepers)
            up = random.sample(range(many), random.choice([random.randint(0, many), many]))
            council.exchange(number, up)
        elif kind < 0.68:
            council.send(number)
            council.fall(keeper, random.randint(0, len(council.keepers[keeper].loose)))
        elif kind < 0.75:
            council.flush(keeper)
            while council.letters and random.random() < 0.8:
                council.deliver(random.randrange(len(council.letters)), random.random() < 0.1)
        elif kind < 0.87:
            alliance.publish(number)

    def test_no_two_lists_of_one_number_are_unlike(self):
        came_often, several = 0, 0
        for seed in range(90):
            random = Random(3400 + seed)
            row = Row(seed)
            alliance = Alliance(random.randint(1, 4))
            alliance.council.begin(random.randint(0, 2))
            sent, came = {}, {}
            for _ in range(220):
                many = len(alliance.lists)
                self.step(random, alliance, row)
                self.check_new(alliance, alliance.lists[many:], sent)
                while alliance.lists and random.random() < 0.3:
                    self.move(random, alliance, came)
                self.check_masts(alliance, came)
            several += len([one for one in alliance.council.sequencers if one.stand == "leading"]) > 1
            came_often += sum(number > 1 for number, _ in came.values())
        self.assertGreater(came_often, 50)
        self.assertGreater(several, 5)

    def check_new(self, alliance, lists, sent):
        """All lists are those of the settled row, one for each number of a mast."""
        settled = lists_of(alliance.council.settled())
        self.assertEqual([event[1] for event in lists], sorted({event[1] for event in lists}))
        for event in lists:
            word, mast, number, rows = event
            self.assertIn(event, settled)
            self.assertEqual((word, sent.setdefault((mast, number), rows)), ("list", rows))

    def move(self, random, alliance, came):
        """A list is lost, or comes and may stay."""
        at = random.randrange(len(alliance.lists))
        event, many = alliance.lists[at], len(alliance.lists)
        if random.random() < 0.3:
            alliance.lose(at)
            self.assertEqual(len(alliance.lists), many - 1)
            return
        is_kept = random.random() < 0.3
        alliance.deliver(at, is_kept)
        self.assertEqual(len(alliance.lists), many if is_kept else many - 1)
        if event[2] >= came.get(event[1], (0, ()))[0]:
            came[event[1]] = event[2:]

    def check_masts(self, alliance, came):
        """Each mast has the rows of the greatest list that came, and never more than its channels."""
        self.assertEqual(list(alliance.masts), sorted(came))
        channels = alliance.settled_core().channels
        for name, (number, rows) in came.items():
            mast = alliance.masts[name]
            self.assertEqual((mast.name, mast.number, mast.rows), (name, number, dict(rows)))
            self.assertLessEqual(len(mast.rows), channels[name])
