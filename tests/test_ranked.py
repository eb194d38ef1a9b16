"""[44], [45]: seats that are promised to emergency calls."""

import unittest
from functools import lru_cache
from itertools import combinations, combinations_with_replacement, product
from random import Random

from mastcalls.errors import BadName
from mastcalls.maps import Map
from mastcalls.ranked import RankDanger, RankTown, danger_beside, greatest_promise
from mastcalls.safety import danger_for
from mastcalls.scenes import wrong_seating
from mastcalls.towns import Town
from tests.drawn import copy_of, drawn_map, drawn_places, ends_from, is_along, is_lacking

PLAN = Map({"a": 1, "b": 2, "c": 9}, {"dale": ("a", "b"), "hill": ("a",), "moor": ()}, (("dale", "hill"),))


def journeys(plan, places):
    """All rows of zones to which calls can be brought."""
    return {tuple(sorted(zones)) for zones in product(*[sorted(ends_from(plan, zone)) for zone in places.values()])}


def all_falls(plan, most):
    """All lots of masts that may be down, the shorter ones first."""
    return [lot for many in range(min(most, len(plan.channels)) + 1) for lot in combinations(sorted(plan.channels), many)]


def first_falls_beside(plan, places, most, extra):
    """With how few masts down somebody may be without a channel, by trying all places; None without any."""
    standings = journeys(plan, places)
    comers = list(combinations_with_replacement(sorted(plan.heard), extra)) if plan.heard else [()]
    for falls in all_falls(plan, most):
        if any(is_lacking(plan, zones + others, falls) for zones in standings for others in comers):
            return len(falls)
    return None


@lru_cache(maxsize=None)
def most_seated(rooms, heard):
    """How many calls can be seated at most; of rows of pairs."""
    if not heard:
        return 0
    best = most_seated(rooms, heard[1:])
    for mast in heard[0]:
        if dict(rooms)[mast] > 0:
            fewer = tuple((other, room - (other == mast)) for other, room in rooms)
            best = max(best, 1 + most_seated(fewer, heard[1:]))
    return best


def most_lacking(plan, places, most):
    """How many calls are without a channel at most."""
    worst = 0
    for falls in all_falls(plan, most):
        for zones in journeys(plan, places):
            heard = [tuple(mast for mast in plan.heard[zone] if mast not in falls) for zone in zones]
            heard = tuple(sorted(masts for masts in heard if masts))
            worst = max(worst, len(heard) - most_seated(tuple(plan.channels.items()), heard))
    return worst


def is_rank_danger(plan, places, most, danger):
    """Whether a danger is one, by the words of the document."""
    for masts in (danger.falls, danger.masts):
        if type(masts) is not tuple or any(masts.count(mast) != 1 or mast not in plan.channels for mast in masts):
            return False
    if len(danger.falls) > most or set(danger.falls) & set(danger.masts):
        return False
    ups = {zone: set(plan.heard[zone]) - set(danger.falls) for zone in plan.heard}
    theirs = [zone for zone in ups if ups[zone] and ups[zone] <= set(danger.masts)]
    for call, way in danger.ways.items():
        if call not in places or not is_along(plan, way) or way[0] != places[call] or way[-1] not in theirs:
            return False
        shortest = ends_from(plan, places[call])
        if len(way) != min(shortest[zone] for zone in theirs if zone in shortest):
            return False
    return bool(theirs) and len(danger.ways) + danger.extra > sum(plan.channels[mast] for mast in danger.masts)


def picture(town):
    """All that can be seen of a town."""
    return (town.most, town.extra, town.down, list(town.places.items()), list(town.seating.items()), town.refused,
            town.moved, list(town.promised))


class RankDangerTest(unittest.TestCase):

    def test_attributes_and_equality(self):
        danger = RankDanger(["b"], ["a"], {"one": ["dale", "hill"]}, 2)
        self.assertEqual((danger.falls, danger.masts, danger.ways, danger.extra),
                         (("b",), ("a",), {"one": ("dale", "hill")}, 2))
        self.assertEqual(danger, RankDanger(("b",), ("a",), {"one": ("dale", "hill")}, 2))
        for other in (RankDanger((), ("a",), danger.ways, 2), RankDanger(("b",), (), danger.ways, 2),
                      RankDanger(("b",), ("a",), {}, 2), RankDanger(("b",), ("a",), danger.ways, 1), None, 2):
            self.assertFalse(danger == other)

    def test_some(self):
        self.assertIsNone(danger_beside(PLAN, {}, 0, 1))
        self.assertEqual(danger_beside(PLAN, {}, 0, 2), RankDanger((), ("a",), {}, 2))
        self.assertEqual(danger_beside(PLAN, {"one": "dale"}, 0, 1),
                         RankDanger((), ("a",), {"one": ("dale", "hill")}, 1))
        self.assertIsNone(danger_beside(PLAN, {"one": "dale"}, 0, 0))
        self.assertIsNone(danger_beside(PLAN, {"one": "moor"}, 0, 1))
        self.assertIsNone(danger_beside(Map({"a": 0}, {"x": ()}, ()), {"one": "x"}, 1, 1000))
        self.assertIsNone(danger_beside(Map({}, {}, ()), {}, 0, 5))

    def test_fewest_falls(self):
        plan = Map({"a": 1, "b": 2}, {"x": ("a", "b")}, ())
        for most in (0, 1, 2):
            told = danger_beside(plan, {"one": "x"}, most, 1)
            self.assertEqual(told, None if most == 0 else RankDanger(("b",), ("a",), {"one": ("x",)}, 1))
        self.assertEqual(danger_beside(plan, {"one": "x"}, 2, 3), RankDanger((), ("a", "b"), {"one": ("x",)}, 3))

    def test_greatest_promise(self):
        for places, most, many in (({}, 0, 1), ({}, 1, 1), ({"one": "dale"}, 0, 0), ({"one": "moor"}, 0, 1),
                                   ({"one": "hill", "two": "hill", "six": "dale"}, 0, -2)):
            self.assertEqual(greatest_promise(PLAN, places, most), many)
        self.assertIsNone(greatest_promise(Map({"a": 3}, {"x": ()}, ()), {"one": "x"}, 0))
        self.assertIsNone(greatest_promise(Map({}, {}, ()), {}, 3))
        plan = Map({"a": 1000, "b": 1000}, {"x": ("a", "b"), "y": ("a",)}, ())
        self.assertEqual([greatest_promise(plan, {"one": "x"}, most) for most in (0, 1, 2)], [1000, 999, 999])
        self.assertEqual(greatest_promise(plan, {"one": "y"}, 0), 999)

    def test_drawn_maps(self):
        random = Random(441)
        found, promises = {}, {}
        for _ in range(4000):
            plan = drawn_map(random, most_masts=4, most_zones=3, most_channels=3, most_roads=5, most_heard=3)
            places = drawn_places(random, plan, 3)
            most, extra = random.choice([0, 1, 2, 2]), random.randint(0, 3)
            was = copy_of(plan), dict(places)
            danger = danger_beside(plan, places, most, extra)
            many = first_falls_beside(plan, places, most, extra)
            self.assertEqual(None if danger is None else len(danger.falls), many)
            found[many] = found.get(many, 0) + 1
            if danger is not None:
                self.assertEqual(danger.extra, extra)
                self.assertTrue(is_rank_danger(plan, places, most, danger))
                self.assertEqual((list(danger.falls), list(danger.masts)), (sorted(danger.falls), sorted(danger.masts)))
                self.assertEqual(danger_beside(plan, places, most, extra), danger)
            plain = danger_for(plan, places, most)
            beside = danger_beside(plan, places, most, 0)
            self.assertEqual(beside is None, plain is None)
            if plain is not None:
                self.assertEqual((beside.falls, beside.extra), (plain.falls, 0))
            promise = self.check_promise(plan, places, most)
            promises[promise] = promises.get(promise, 0) + 1
            self.assertEqual((plan, places), was)
        self.assertGreater(min(found[None], found[0], found[1], found[2]), 10, found)
        self.assertGreater(min(promises[many] for many in (None, -2, -1, 0, 1, 2)), 10, promises)

    def check_promise(self, plan, places, most):
        """Holds the greatest promise against dangers by trying all places."""
        promise = greatest_promise(plan, places, most)
        if promise is None:
            self.assertFalse(any(plan.heard.values()))
            self.assertIsNone(danger_beside(plan, places, most, 1000))
        elif promise < 0:
            self.assertEqual(-promise, most_lacking(plan, places, most))
        else:
            self.assertEqual(most_lacking(plan, places, most), 0)
            for extra in range(promise + 3):
                self.assertEqual(danger_beside(plan, places, most, extra) is None, extra <= promise)
            if promise < 3:
                self.assertIsNone(first_falls_beside(plan, places, most, promise))
                self.assertIsNotNone(first_falls_beside(plan, places, most, promise + 1))
        return promise


class RankTownTest(unittest.TestCase):

    def test_a_new_town(self):
        town = RankTown(PLAN, 0, 1)
        self.assertIsInstance(town, Town)
        self.assertEqual(picture(town), (0, 1, (), [], [], 0, 0, []))
        self.assertEqual((town.promised, town.plan), ({}, PLAN))
        self.assertTrue(town.is_safe())

    def test_what_cannot_be_promised(self):
        for extra in (2, 3, 1000, 1001, -1, True, False, None, "1", 1.0):
            with self.assertRaises(BadName) as caught:
                RankTown(PLAN, 0, extra)
            self.assertIs(caught.exception.name, extra)
        deaf = Map({"a": 0}, {"x": ()}, ())
        self.assertEqual([RankTown(deaf, 0, extra).extra for extra in (0, 1000)], [0, 1000])
        with self.assertRaises(BadName):
            RankTown(deaf, 0, 1001)

    def test_emergency_and_ordinary_calls(self):
        plan = Map({"a": 3}, {"x": ("a",), "y": ("a",)}, (("x", "y"),))
        town = RankTown(plan, 0, 2)
        self.assertIsNone(town.begin("one", "x"))
        danger = town.begin("two", "x")
        self.assertEqual(danger, RankDanger((), ("a",), {"one": ("x",), "two": ("x",)}, 2))
        self.assertEqual((town.refused, list(town.places), town.promised), (1, ["one"], {}))
        self.assertIsNone(town.begin_urgent("sos", "y"))
        self.assertIsNone(town.begin_urgent("aid", "y"))
        self.assertEqual((list(town.promised), list(town.seating)), (["aid", "sos"], ["aid", "one", "sos"]))
        danger = town.begin_urgent("two", "y")
        self.assertEqual(danger, RankDanger((), ("a",), {"one": ("x",), "two": ("y",)}, 2))
        self.assertEqual((town.refused, list(town.promised), list(town.places)), (2, ["aid", "sos"], ["aid", "one", "sos"]))
        town.end("sos")
        self.assertEqual(list(town.promised), ["aid"])
        self.assertEqual(town.begin("two", "x").extra, 2)
        self.assertIsNone(town.begin_urgent("two", "x"))
        town.end("one")
        self.assertIsNone(town.begin_urgent("one", "x"))
        self.assertEqual(list(town.promised), ["aid", "two"])

    def test_bad_names_change_nothing(self):
        town = RankTown(Map({"a": 3, "b": 3}, {"x": ("a", "b"), "y": ("a",)}, (("x", "y"),)), 1, 1)
        town.begin("one", "x")
        town.begin_urgent("sos", "y")
        town.fall("b")
        for word, parts, name in (("begin", ("One", "q"), "One"), ("begin", ("one", "q"), "one"),
                                  ("begin", ("sos", "x"), "sos"), ("begin", ("six", "q"), "q"),
                                  ("begin_urgent", ("One", "q"), "One"), ("begin_urgent", ("sos", "x"), "sos"),
                                  ("begin_urgent", ("one", "q"), "one"), ("begin_urgent", ("six", "q"), "q"),
                                  ("begin_urgent", (None, "x"), None), ("begin_urgent", ("six", None), None),
                                  ("go", ("six", "y"), "six"), ("go", ("one", "x"), "x"), ("end", ("six",), "six"),
                                  ("fall", ("a",), "a"), ("rise", ("a",), "a")):
            was = picture(town)
            with self.assertRaises(BadName, msg=(word, parts)) as caught:
                getattr(town, word)(*parts)
            self.assertEqual(caught.exception.name, name)
            self.assertEqual(picture(town), was)
        town.end("sos")
        with self.assertRaises(BadName):
            town.begin_urgent("six", "q")
        self.assertEqual(town.promised, {})

    def test_is_safe_looks_at_the_calls_without_a_promise(self):
        town = RankTown(Map({"a": 2}, {"x": ("a",)}, ()), 0, 1)
        town.places = {"one": "x", "two": "x"}
        self.assertFalse(town.is_safe())
        town.promised = {"two": True}
        self.assertTrue(town.is_safe())


class DrawnRankTownTest(unittest.TestCase):

    def step(self, random, town):
        """A deed that may well be barred."""
        zones = list(town.plan.heard) + ["q"]
        masts = list(town.plan.channels) + ["q"]
        name = random.choice(["c0", "c1", "c2", "c3", "c4", "C"])
        if town.places and random.random() < 0.45:
            name = random.choice(list(town.places))
            zone = random.choice(town.plan.next_zones(town.places[name]) + [random.choice(zones)])
            return random.choice([("go", (name, zone))] * 3 + [("end", (name,))])
        mast = random.choice(town.down) if town.down and random.random() < 0.4 else random.choice(masts)
        return random.choice([("begin", (name, random.choice(zones)))] * 3 +
                             [("begin_urgent", (name, random.choice(zones)))] * 2 + [("fall", (mast,)), ("rise", (mast,))])

    def check(self, town, word, parts):
        """Does a deed, and holds it against the document; which kind of deed it was."""
        was, promised, places = picture(town), dict(town.promised), dict(town.places)
        try:
            told = getattr(town, word)(*parts)
        except BadName:
            self.assertEqual(picture(town), was)
            return "barred"
        kind = word
        if word == "begin_urgent" and len(promised) < town.extra:
            self.assertIsNone(told)
            promised[parts[0]] = True
        elif word in ("begin", "begin_urgent"):
            ordinary = {name: zone for name, zone in [*places.items(), parts] if name not in promised}
            many = first_falls_beside(town.plan, ordinary, town.most, town.extra)
            self.assertEqual(None if told is None else len(told.falls), many)
            kind = "ordinary"
            if told is not None:
                self.assertEqual(told.extra, town.extra)
                self.assertTrue(is_rank_danger(town.plan, ordinary, town.most, told))
                self.assertEqual(picture(town), was[:5] + (was[5] + 1,) + was[6:])
                return "refused"
        elif word == "end":
            promised.pop(parts[0], None)
        if word in ("go", "end", "fall", "rise"):
            before = dict(was[4])
            self.assertEqual(told, tuple(name for name, mast in town.seating.items() if before.get(name) != mast))
        self.assertEqual(list(town.promised), sorted(promised))
        self.check_town(town)
        return kind

    def check_town(self, town):
        """All calls that are heard have seats, and all promises can be kept."""
        scene = town.scene()
        self.assertEqual(list(town.seating), list(scene.calls))
        self.assertIsNone(wrong_seating(scene, town.seating))
        for name, zone in town.places.items():
            heard = [mast for mast in town.plan.heard[zone] if mast not in town.down]
            self.assertEqual(name in town.seating, bool(heard))
        ordinary = {name: zone for name, zone in town.places.items() if name not in town.promised}
        self.assertTrue(town.is_safe())
        self.assertIsNone(danger_beside(town.plan, ordinary, town.most, town.extra))
        self.assertLessEqual(len(town.promised), town.extra)

    def test_drawn_towns(self):
        random = Random(451)
        kinds = {}
        for _ in range(200):
            plan = drawn_map(random, most_masts=4, most_zones=3, most_channels=4, most_roads=5, most_heard=3)
            was = copy_of(plan)
            most = random.randint(0, 2)
            promise = greatest_promise(plan, {}, most)
            extra = random.randint(0, 2 if promise is None else min(promise, 2))
            town, twin = RankTown(plan, most, extra), RankTown(copy_of(plan), most, extra)
            for _ in range(25):
                word, parts = self.step(random, town)
                kind = self.check(town, word, parts)
                kinds[kind] = kinds.get(kind, 0) + 1
                if kind != "barred":
                    getattr(twin, word)(*parts)
                self.assertEqual(picture(twin), picture(town))
            self.assertEqual(plan, was)
            if promise is not None:
                with self.assertRaises(BadName):
                    RankTown(plan, most, promise + 1)
        for kind in ("barred", "refused", "ordinary", "begin_urgent", "go", "end", "fall", "rise"):
            self.assertGreater(kinds[kind], 30, kinds)
