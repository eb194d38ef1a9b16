"""[46] to [48]: two cores with one border."""

import unittest
from itertools import combinations
from random import Random

from mastcalls.borders import Border, check_homes, view_of
from mastcalls.errors import BadName, BadScene
from mastcalls.maps import Map
from mastcalls.safety import danger_for, shows
from mastcalls.scenes import wrong_seating
from mastcalls.towns import Town
from tests.crowded import with_ways_back
from tests.drawn import copy_of, drawn_map, ends_from, first_falls, is_dangerous, is_shown

PLAN = Map({"a": 1, "b": 1, "q": 5}, {"dale": ("a",), "hill": ("b",), "moor": (), "isle": ("a",)},
           (("dale", "hill"), ("hill", "dale"), ("dale", "moor"), ("moor", "dale")))
HOMES = {"dale": 0, "moor": 0, "isle": 0, "hill": 1}


def picture(border):
    """All that can be seen of a border."""
    cores = [(list(core.town.places.items()), core.town.seating, core.town.down, list(core.asked.items()),
              len(core.opens())) for core in border.cores]
    return cores, list(border.where.items()), list(border.refused), len(border.letters)


def drawn_homes(random, plan):
    """Homes of the zones, those in which a mast is heard being of one core."""
    homes = {}
    for zone in plan.heard:
        same = [homes[other] for other in homes if set(plan.heard[other]) & set(plan.heard[zone])]
        if len(set(same)) > 1:
            return {other: 0 for other in plan.heard}
        homes[zone] = same[0] if same else random.randint(0, 1)
    return homes


def drawn_border(random, both_ways=False, **limits):
    """Some border, of a map that mostly has zones of both cores."""
    for _ in range(20):
        plan = drawn_map(random, most_masts=4, most_roads=7, **limits)
        if both_ways:
            plan = with_ways_back(plan)
        homes = drawn_homes(random, plan)
        if len(set(homes.values())) == 2:
            break
    mosts = random.randint(0, 1), random.randint(0, 1)
    return Border(plan, homes, random.choice([mosts, list(mosts)]))


class HomesTest(unittest.TestCase):

    def wrong(self, homes):
        for step in (lambda: check_homes(PLAN, homes), lambda: Border(PLAN, homes, (0, 0))):
            with self.assertRaises(BadScene, msg=homes) as caught:
                step()
            self.assertEqual(caught.exception.word, "home")

    def test_wrong_homes(self):
        for home in (2, -1, True, False, None, "0", (0,), 1.0):
            self.wrong({**HOMES, "moor": home})
        for zone in HOMES:
            self.wrong({other: HOMES[other] for other in HOMES if other != zone})
        self.wrong({})
        self.wrong({**HOMES, "isle": 1})
        self.wrong({**HOMES, "dale": 1})

    def test_right_homes(self):
        for homes in (HOMES, {**HOMES, "moor": 1}, {**HOMES, "nowhere": 7, "hell": None},
                      {zone: 1 for zone in HOMES}, {zone: 0 for zone in HOMES}):
            was = dict(homes)
            self.assertIsNone(check_homes(PLAN, homes))
            self.assertEqual(homes, was)
        self.assertIsNone(check_homes(Map({}, {}, ()), {}))

    def test_view_of(self):
        one = Map({"a": 1}, {"dale": ("a",), "hill": (), "moor": (), "isle": ("a",)}, PLAN.roads)
        other = Map({"b": 1}, {"dale": (), "hill": ("b",), "moor": (), "isle": ()}, PLAN.roads)
        self.assertEqual((view_of(PLAN, HOMES, 0), view_of(PLAN, HOMES, 1)), (one, other))
        self.assertEqual(view_of(PLAN, {zone: 0 for zone in HOMES}, 1),
                         Map({}, {zone: () for zone in HOMES}, PLAN.roads))


class BorderTest(unittest.TestCase):

    def test_a_new_one(self):
        border = Border(PLAN, HOMES, (0, 1))
        self.assertEqual((border.plan, border.homes, len(border.cores)), (PLAN, HOMES, 2))
        for at, core in enumerate(border.cores):
            self.assertIsInstance(core.town, Town)
            self.assertEqual((core.town.plan, core.town.most), (view_of(PLAN, HOMES, at), at))
            self.assertEqual((core.asked, list(core.opens())), ({}, []))
        self.assertEqual((border.where, border.refused, border.letters), ({}, {}, []))
        self.assertTrue(border.are_safe())

    def test_asked_then_taken(self):
        border = Border(PLAN, HOMES, (0, 0))
        self.assertEqual(border.begin("one", "moor"), "asked")
        self.assertEqual((border.where, border.is_taken("one"), border.cores[0].asked, border.cores[1].asked),
                         ({"one": "moor"}, False, {"one": "moor"}, {}))
        self.assertEqual([len(core.opens()) for core in border.cores], [1, 0])
        self.assertIsNone(border.go("one", "dale"))
        self.assertEqual((border.cores[0].town.seating, border.cores[0].asked), ({"one": "a"}, {"one": "moor"}))
        with self.assertRaises(BadName) as caught:
            border.go("one", "hill")
        self.assertEqual((caught.exception.name, border.where), ("hill", {"one": "dale"}))
        border.quiet()
        self.assertTrue(border.is_taken("one"))
        self.assertEqual([core.asked for core in border.cores], [{}, {}])
        # The other core knows it where it began.
        self.assertEqual([core.town.places for core in border.cores], [{"one": "dale"}, {"one": "moor"}])
        border.go("one", "hill")
        self.assertEqual([core.town.places for core in border.cores], [{"one": "hill"}, {"one": "hill"}])
        self.assertEqual([core.town.seating for core in border.cores], [{}, {"one": "b"}])
        border.go("one", "dale")
        border.go("one", "moor")
        self.assertEqual([core.town.places for core in border.cores], [{"one": "moor"}, {"one": "dale"}])
        self.assertEqual([core.town.seating for core in border.cores], [{}, {}])

    def test_no_way_to_the_other_core(self):
        border = Border(PLAN, HOMES, (0, 0))
        self.assertEqual(border.begin("one", "isle"), "taken")
        self.assertEqual((border.is_taken("one"), border.letters), (True, []))
        self.assertEqual([core.town.places for core in border.cores], [{"one": "isle"}, {}])
        self.assertIsNone(border.end("one"))
        self.assertEqual((border.where, border.letters, len(border.cores[0].opens())), ({}, [], 0))

    def test_a_long_way_to_the_other_core(self):
        zones = {"x" + str(at): () for at in range(6)}
        roads = [("x" + str(at), "x" + str(at + 1)) for at in range(5)]
        border = Border(Map({}, zones, roads), {zone: int(zone == "x5") for zone in zones}, (0, 0))
        self.assertEqual((border.begin("one", "x0"), border.begin("two", "x5")), ("asked", "taken"))

    def test_refused_by_the_first_core(self):
        border = Border(PLAN, HOMES, (0, 0))
        border.begin("one", "isle")
        self.assertEqual(border.begin("two", "moor"), "refused")
        self.assertEqual((border.where, border.letters, list(border.refused)), ({"one": "isle"}, [], ["two"]))
        danger = border.refused["two"]
        self.assertTrue(shows(PLAN, {"one": "isle", "two": "moor"}, 0, danger))
        self.assertEqual((danger.masts, border.is_taken("two")), (("a",), False))

    def test_refused_by_the_other_core(self):
        border = Border(Map({"a": 2, "b": 1}, PLAN.heard, PLAN.roads), HOMES, (0, 0))
        self.assertEqual(border.begin("one", "moor"), "asked")
        border.quiet()
        self.assertEqual(border.begin("two", "dale"), "asked")
        self.assertEqual(list(border.where), ["one", "two"])
        border.quiet()
        self.assertEqual((list(border.where), list(border.refused)), (["one"], ["two"]))
        self.assertEqual((border.refused["two"].masts, border.is_taken("two")), (("b",), False))
        self.assertEqual([list(core.town.places) for core in border.cores], [["one"], ["one"]])
        self.assertEqual([(core.asked, list(core.opens())) for core in border.cores], [({}, []), ({}, [])])

    def test_it_answers_once_for_all(self):
        border = Border(Map({"a": 2, "b": 1}, PLAN.heard, PLAN.roads), HOMES, (0, 0))
        border.begin("one", "hill")
        border.quiet()
        border.begin("two", "moor")
        border.letters.clear()
        border.send(0)
        border.deliver(0, False)
        # Its no is lost, then there is room; but it has been said.
        border.lose(0)
        border.end("one")
        border.quiet()
        self.assertEqual((border.where, list(border.refused)), ({}, ["two"]))
        border.begin("six", "moor")
        border.letters.clear()
        border.send(0)
        border.deliver(0, True)
        border.deliver(0, False)
        # Its yes is said twice, but the call is in its book once.
        self.assertEqual((len(border.letters), border.cores[1].town.places), (2, {"six": "moor"}))
        border.deliver(0, False)
        self.assertTrue(border.is_taken("six"))
        border.deliver(0, False)
        self.assertTrue(border.is_taken("six"))

    def test_an_end_is_told_until_it_is_answered(self):
        border = Border(PLAN, HOMES, (0, 0))
        border.begin("one", "moor")
        border.quiet()
        self.assertIsNone(border.end("one"))
        self.assertEqual([core.town.places for core in border.cores], [{}, {"one": "moor"}])
        self.assertEqual([len(core.opens()) for core in border.cores], [1, 0])
        border.letters.clear()
        border.send(0)
        border.deliver(0, False)
        self.assertEqual(border.cores[1].town.places, {})
        self.assertEqual([len(core.opens()) for core in border.cores], [1, 0])
        border.lose(0)
        border.quiet()
        self.assertEqual([len(core.opens()) for core in border.cores], [0, 0])

    def test_it_ends_where_it_is(self):
        border = Border(PLAN, HOMES, (0, 0))
        border.begin("one", "dale")
        border.quiet()
        border.go("one", "hill")
        border.end("one")
        self.assertEqual([core.town.places for core in border.cores], [{"one": "hill"}, {}])
        self.assertEqual([len(core.opens()) for core in border.cores], [0, 1])
        border.quiet()
        self.assertEqual([core.town.places for core in border.cores], [{}, {}])

    def test_a_call_that_has_ended_is_never_taken(self):
        for is_first in (True, False):
            border = Border(PLAN, HOMES, (0, 0))
            border.begin("one", "moor")
            border.letters.clear()
            border.send(0)
            border.end("one")
            border.send(0)
            # An old ask stays for ever, and comes ahead of the end, or behind it.
            border.deliver(0 if is_first else 1, True)
            for _ in range(3):
                border.deliver(0, True)
            while len(border.letters) > 1:
                border.deliver(1, False)
            border.deliver(0, True)
            border.quiet()
            border.quiet()
            self.assertEqual((border.where, border.refused, border.is_taken("one")), ({}, {}, False))
            self.assertEqual([core.town.places for core in border.cores], [{}, {}])
            self.assertEqual([(core.asked, list(core.opens())) for core in border.cores], [({}, []), ({}, [])])

    def test_masts_fall_and_rise(self):
        plan = Map({"a": 1, "b": 1, "c": 1, "q": 5}, {"dale": ("a", "b"), "hill": ("c",)}, ())
        border = Border(plan, {"dale": 0, "hill": 1}, (1, 0))
        self.assertEqual(border.begin("one", "dale"), "taken")
        self.assertEqual((border.fall("a"), border.cores[0].town.down), (("one",), ("a",)))
        self.assertEqual(border.cores[0].town.seating, {"one": "b"})
        for step, name in ((border.fall, "a"), (border.fall, "b"), (border.fall, "c"), (border.fall, "q"),
                           (border.rise, "b"), (border.rise, "c"), (border.rise, "q"), (border.fall, "dale"),
                           (border.rise, None), (border.fall, ["a"])):
            was = picture(border)
            with self.assertRaises(BadName) as caught:
                step(name)
            self.assertEqual((caught.exception.name, picture(border)), (name, was))
        self.assertEqual((border.rise("a"), border.cores[0].town.down), ((), ()))

    def test_bad_names_change_nothing(self):
        border = Border(Map({"a": 1, "b": 2}, PLAN.heard, PLAN.roads), HOMES, (0, 0))
        border.begin("one", "isle")
        border.begin("no", "dale")
        border.begin("two", "hill")
        border.quiet()
        border.begin("old", "hill")
        border.quiet()
        self.assertEqual((list(border.where), list(border.refused)), (["one"], ["no", "old", "two"]))
        border = Border(Map({"a": 3, "b": 3}, PLAN.heard, PLAN.roads), HOMES, (0, 0))
        border.begin("old", "isle")
        border.end("old")
        border.begin("one", "dale")
        for word, parts, name in (("begin", ("One", "q"), "One"), ("begin", ("one", "q"), "one"),
                                  ("begin", ("old", "q"), "old"), ("begin", (None, "dale"), None),
                                  ("begin", (["x"], "dale"), ["x"]), ("begin", ("six", "q"), "q"),
                                  ("begin", ("six", None), None), ("begin", ("six", ["dale"]), ["dale"]),
                                  ("go", ("six", "q"), "six"), ("go", ("old", "dale"), "old"),
                                  ("go", ("one", "isle"), "isle"), ("go", ("one", "dale"), "dale"),
                                  ("go", ("one", "q"), "q"), ("go", ("one", None), None),
                                  ("go", ("one", "hill"), "hill"), ("go", (["one"], "dale"), ["one"]),
                                  ("end", ("six",), "six"), ("end", ("old",), "old"), ("end", (None,), None)):
            was = picture(border)
            with self.assertRaises(BadName, msg=(word, parts)) as caught:
                getattr(border, word)(*parts)
            self.assertEqual(caught.exception.name, name)
            self.assertEqual(picture(border), was)
        self.assertEqual(border.begin("six", "dale"), "asked")

    def test_names_that_were_refused_may_not_begin_again(self):
        border = Border(PLAN, HOMES, (0, 0))
        border.begin("one", "isle")
        border.begin("two", "isle")
        border.end("one")
        for name in ("one", "two"):
            with self.assertRaises(BadName):
                border.begin(name, "isle")
        self.assertEqual(border.begin("six", "isle"), "taken")

    def test_places_of_letters_that_are_not_there(self):
        border = Border(PLAN, HOMES, (0, 0))
        border.begin("one", "moor")
        border.letters.clear()
        border.send(0)
        was = picture(border)
        for at in (1, -1, True, False, None, "0", (0,), 0.0):
            for step, parts in ((border.deliver, (at, True)), (border.deliver, (at, False)), (border.lose, (at,))):
                with self.assertRaises(BadName) as caught:
                    step(*parts)
                self.assertIs(caught.exception.name, at)
                self.assertEqual(picture(border), was)

    def test_letters_that_are_put_now(self):
        border = Border(PLAN, HOMES, (0, 0))
        for zone, name in (("moor", "one"), ("hill", "two")):
            border.begin(name, zone)
            many = len(border.letters)
            border.send(border.homes[zone])
            self.assertEqual(len(border.letters), many + 1)
            border.lose(many)
            self.assertEqual(len(border.letters), many)
            while border.letters:
                border.deliver(0, False)
            self.assertTrue(border.is_taken(name) or many == 0)
            border.quiet()
            border.end(name)
            many = len(border.letters)
            while border.letters:
                border.deliver(0, False)
            self.assertTrue(many == 0 or name not in border.cores[1 - border.homes[zone]].town.places)
            border.quiet()
            self.assertEqual([core.town.places for core in border.cores], [{}, {}])

    def test_are_safe_looks_at_both(self):
        for at in (0, 1):
            border = Border(PLAN, HOMES, (0, 0))
            town = border.cores[at].town
            town.places = {"one": "dale", "two": "hill"}
            self.assertFalse(border.are_safe())

    def test_is_taken_of_any_name(self):
        border = Border(PLAN, HOMES, (0, 0))
        self.assertEqual([border.is_taken(name) for name in ("one", "", "dale")], [False, False, False])


class Watcher:
    """Does drawn things with a border, and holds the facts against it."""

    def __init__(self, test, random, border):
        self.test = test
        self.random = random
        self.border = border
        self.kinds = {}
        self.ever = {}
        self.at = 0

    def count(self, kind):
        self.kinds[kind] = self.kinds.get(kind, 0) + 1

    def step(self, is_lossy):
        random, border = self.random, self.border
        draw = random.random()
        zones = list(border.plan.heard)
        if draw < 0.2 and zones and len(border.where) < 4:
            name = "c" + str(self.at)
            self.at += 1
            self.ever[name] = random.choice(zones)
            self.count(border.begin(name, self.ever[name]))
        elif draw < 0.5 and border.where:
            self.go(random.choice(list(border.where)))
        elif draw < 0.57 and border.where:
            border.end(random.choice(list(border.where)))
            self.count("end")
        elif draw < 0.65:
            mast = random.choice(list(border.plan.channels) + ["q"])
            try:
                random.choice([border.fall, border.rise])(mast)
                self.count("mast")
            except BadName:
                self.count("barred")
        elif draw < 0.75:
            border.send(random.randint(0, 1))
        elif border.letters:
            at = random.randrange(len(border.letters))
            if is_lossy and draw > 0.95:
                border.lose(at)
            else:
                border.deliver(at, is_lossy and random.random() < 0.15)

    def go(self, name):
        border = self.border
        here = border.where[name]
        onward = [zone for first, zone in border.plan.roads if first == here]
        if not onward:
            return
        zone = self.random.choice(onward)
        crosses = border.homes[zone] != border.homes[here]
        if crosses and not border.is_taken(name):
            was = picture(border)
            with self.test.assertRaises(BadName):
                border.go(name, zone)
            self.test.assertEqual(picture(border), was)
            self.count("waits")
            return
        border.go(name, zone)
        self.count("crosses" if crosses else "goes")

    def check(self):
        test, border = self.test, self.border
        test.assertTrue(border.are_safe())
        for core in border.cores:
            town = core.town
            test.assertIsNone(first_falls(town.plan, town.places, town.most))
            test.assertIsNone(wrong_seating(town.scene(), town.seating))
        for name, zone in border.where.items():
            home = border.homes[zone]
            down = border.cores[home].town.down
            heard = [mast for mast in border.plan.heard[zone] if mast not in down]
            here, there = border.cores[home].town, border.cores[1 - home].town
            test.assertEqual(name in here.seating, bool(heard))
            if heard:
                test.assertIn(here.seating[name], heard)
            test.assertNotIn(name, there.seating)
            test.assertEqual(here.places[name], zone)
            # The other core's book has a zone from which the call can have come to where it is.
            if name in there.places:
                test.assertIn(zone, ends_from(border.plan, there.places[name]))
            waits = any(name in core.asked for core in border.cores)
            test.assertEqual(border.is_taken(name), not waits)
        test.assertEqual(list(border.where), sorted(border.where))
        test.assertEqual(list(border.refused), sorted(border.refused))
        test.assertFalse(set(border.where) & set(border.refused))
        for core in border.cores:
            test.assertEqual(list(core.asked.items()),
                             sorted((name, self.ever[name]) for name in core.asked))
            for name in core.asked:
                test.assertIn(name, border.where)

    def calm(self):
        """Behind one quiet round nothing is open, and no town has a call that isn't there."""
        test, border = self.test, self.border
        border.quiet()
        test.assertEqual(border.letters, [])
        for at, core in enumerate(border.cores):
            test.assertEqual((core.asked, list(core.opens())), ({}, []))
            test.assertTrue(set(core.town.places) <= set(border.where))
            for name, zone in border.where.items():
                if border.homes[zone] == at:
                    test.assertIn(name, core.town.places)
        test.assertTrue(all(border.is_taken(name) for name in border.where))
        self.check()


class DrawnBorderTest(unittest.TestCase):

    def test_whatever_letters_are_lost_doubled_or_late(self):
        kinds = {}
        for seed in range(250):
            random = Random(4700 + seed)
            border = drawn_border(random, random.random() < 0.5, most_channels=3)
            was = copy_of(border.plan), dict(border.homes)
            watcher = Watcher(self, random, border)
            for _ in range(60):
                watcher.step(True)
                watcher.check()
                if random.random() < 0.03:
                    watcher.calm()
            watcher.calm()
            for kind, many in watcher.kinds.items():
                kinds[kind] = kinds.get(kind, 0) + many
            kinds["no"] = kinds.get("no", 0) + len(border.refused) - watcher.kinds.get("refused", 0)
            self.assertEqual((border.plan, border.homes), was)
        for kind in ("taken", "asked", "refused", "no", "goes", "waits", "crosses", "end", "mast", "barred"):
            self.assertGreater(kinds[kind], 40, kinds)

    def test_refused_by_a_danger_of_one_of_the_books(self):
        seen = 0
        for seed in range(200):
            random = Random(4800 + seed)
            border = drawn_border(random, most_channels=2)
            zones = list(border.plan.heard)
            for at in range(8 if zones else 0):
                name, zone = "c" + str(at), random.choice(zones)
                books = [{**core.town.places, name: zone} for core in border.cores]
                border.begin(name, zone)
                border.quiet()
                if name in border.refused:
                    seen += 1
                    danger = border.refused[name]
                    self.assertTrue(any(is_shown(border.plan, book, core.town.most, danger)
                                        and danger == danger_for(core.town.plan, book, core.town.most)
                                        for book, core in zip(books, border.cores)))
                elif border.where and random.random() < 0.3:
                    Watcher(self, random, border).go(random.choice(list(border.where)))
        self.assertGreater(seen, 100)

    def is_in_danger(self, border, places):
        """Whether the one map of both has a danger, by all journeys, with up to so many masts of each down."""
        lots = []
        for at, core in enumerate(border.cores):
            masts = sorted({mast for zone, row in border.plan.heard.items() if border.homes[zone] == at
                            for mast in row})
            lots.append([lot for many in range(core.town.most + 1) for lot in combinations(masts, many)])
        return any(is_dangerous(border.plan, places, one + other) for one in lots[0] for other in lots[1])

    def test_taken_exactly_if_no_danger_is_in_the_one_map(self):
        taken, refused = 0, 0
        for seed in range(300):
            random = Random(4900 + seed)
            goes = random.random() < 0.5
            border = drawn_border(random, goes, most_channels=3)
            zones = list(border.plan.heard)
            watcher = Watcher(self, random, border)
            for at in range(5 if zones else 0):
                name, zone = "c" + str(at), random.choice(zones)
                watcher.ever[name] = zone
                in_danger = self.is_in_danger(border, {**border.where, name: zone})
                border.begin(name, zone)
                border.quiet()
                self.assertEqual(border.is_taken(name), not in_danger)
                self.assertEqual(name in border.refused, in_danger)
                taken += not in_danger
                refused += in_danger
                for _ in range(3):
                    if goes and border.where:
                        watcher.go(random.choice(list(border.where)))
                if border.where and random.random() < 0.15:
                    border.end(random.choice(list(border.where)))
                    border.quiet()
                watcher.check()
        self.assertGreater(min(taken, refused), 300, (taken, refused))

    def test_the_same_again(self):
        for seed in range(60):
            first, second = [], []
            for told in (first, second):
                random = Random(5000 + seed)
                border = drawn_border(random, most_channels=3)
                watcher = Watcher(self, random, border)
                for _ in range(50):
                    watcher.step(True)
                    told.append(picture(border))
            self.assertEqual(first, second)
