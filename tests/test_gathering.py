"""[42], [43]: crowded zones with roads both ways, and towns of them."""

import unittest
from random import Random

from mastcalls.crowds import shows_crowd
from mastcalls.errors import BadName, BadScene
from mastcalls.gathering import CrowdTown, are_both_ways, quick_danger
from mastcalls.maps import Map
from mastcalls.scenes import wrong_seating
from mastcalls.towns import Town
from tests.crowded import drawn_limits, drawn_standing, fewest_falls, is_crowd_danger, with_ways_back
from tests.drawn import copy_of, drawn_map

PLAN = Map({"a": 1, "b": 1}, {"lift": ("a",), "hall": ("a", "b")}, (("lift", "hall"), ("hall", "lift")))


def picture(town):
    """All that can be seen of a town."""
    return (town.most, town.down, list(town.places.items()), list(town.seating.items()), town.refused, town.moved,
            dict(town.limits))


class GatheringTest(unittest.TestCase):

    def test_the_example(self):
        places = {"ann": "hall", "ben": "hall"}
        told = [quick_danger(PLAN, {"lift": 1}, places, 0), quick_danger(PLAN, {}, places, 0).masts]
        self.assertEqual(told, [None, ("a",)])
        self.assertEqual(places, {"ann": "hall", "ben": "hall"})

    def test_are_both_ways(self):
        zones = {"x": (), "y": (), "z": ()}
        for roads, answer in (((), True), ((("x", "x"),), True), ((("x", "y"),), False),
                              ((("x", "y"), ("y", "x")), True), ((("x", "y"), ("y", "x"), ("y", "z")), False),
                              ((("x", "y"), ("y", "z"), ("z", "x")), False)):
            self.assertIs(are_both_ways(Map({}, zones, roads)), answer, roads)

    def test_a_free_place_is_handed_on(self):
        # A corridor of cells for one call each, all but the first one taken.
        zones = ["x" + str(at) for at in range(6)]
        roads = [pair for one, other in zip(zones, zones[1:]) for pair in ((one, other), (other, one))]
        plan = Map({"a": 0, "b": 5}, {zone: ("a",) if zone == "x0" else ("b",) for zone in zones}, roads)
        limits = {zone: 1 for zone in zones}
        places = {"c" + str(at): "x" + str(at) for at in range(1, 6)}
        danger = quick_danger(plan, limits, places, 0)
        self.assertEqual((danger.falls, danger.masts), ((), ("a",)))
        self.assertTrue(is_crowd_danger(plan, limits, places, 0, danger))
        self.assertEqual(danger.steps[0], ("c1", "x0"))
        only = {"c1": "x5"}
        danger = quick_danger(plan, limits, only, 0)
        self.assertEqual(danger.steps, tuple(("c1", "x" + str(at)) for at in (4, 3, 2, 1, 0)))

    def test_zones_that_let_nobody_in_part_the_others(self):
        roads = (("x", "y"), ("y", "x"), ("y", "z"), ("z", "y"))
        plan = Map({"a": 0, "b": 1}, {"x": ("b",), "y": ("b",), "z": ("a",)}, roads)
        self.assertEqual(quick_danger(plan, {}, {"one": "x"}, 0).steps, (("one", "y"), ("one", "z")))
        self.assertIsNone(quick_danger(plan, {"y": 0}, {"one": "x"}, 0))
        self.assertIsNone(quick_danger(plan, {"z": 0}, {"one": "x"}, 0))
        self.assertEqual(quick_danger(plan, {"z": 1, "y": 1}, {"one": "x"}, 0).steps, (("one", "y"), ("one", "z")))

    def test_drawn_maps(self):
        random = Random(421)
        found, steps = {}, 0
        for at in range(3000):
            plan = with_ways_back(drawn_map(random, most_masts=4, most_roads=5, most_heard=2 + at % 2))
            limits = drawn_limits(random, plan)
            places = drawn_standing(random, plan, limits, 5)
            most = random.choice([0, 1, 2, 2])
            was = copy_of(plan), dict(limits), dict(places)
            danger = quick_danger(plan, limits, places, most)
            many = fewest_falls(plan, limits, places, most)
            self.assertEqual(None if danger is None else len(danger.falls), many)
            found[many] = found.get(many, 0) + 1
            if danger is not None:
                self.assertTrue(is_crowd_danger(plan, limits, places, most, danger))
                self.assertEqual((list(danger.falls), list(danger.masts)), (sorted(danger.falls), sorted(danger.masts)))
                self.assertTrue(shows_crowd(plan, limits, places, most, danger))
                self.assertEqual(quick_danger(plan, limits, places, most), danger)
                steps = max(steps, len(danger.steps))
            self.assertEqual((plan, limits, places), was)
        self.assertGreater(min(found[None], found[0], found[1], found[2]), 10, found)
        self.assertGreater(steps, 3)


class CrowdTownTest(unittest.TestCase):

    def test_a_new_town(self):
        limits = {"lift": 1, "hall": 2}
        town = CrowdTown(PLAN, limits, 1)
        self.assertIsInstance(town, Town)
        self.assertEqual((town.plan, town.most, town.limits), (PLAN, 1, {"lift": 1, "hall": 2}))
        self.assertEqual(picture(town)[1:6], ((), [], [], 0, 0))
        self.assertTrue(town.is_safe())
        limits["lift"] = 5
        self.assertEqual(town.limits["lift"], 1)

    def test_roads_must_go_both_ways(self):
        for roads in ((("lift", "hall"),), (("lift", "hall"), ("hall", "lift"), ("hall", "yard"))):
            plan = Map({"a": 1}, {"lift": ("a",), "hall": (), "yard": ()}, roads)
            with self.assertRaises(BadScene) as caught:
                CrowdTown(plan, {}, 0)
            self.assertEqual(caught.exception.word, "road")

    def test_refused_just_if_the_limits_let_a_danger_be(self):
        town = CrowdTown(PLAN, {"lift": 1}, 0)
        self.assertEqual([town.begin("one", "hall"), town.begin("two", "hall")], [None, None])
        self.assertEqual(town.go("one", "lift"), ())
        self.assertEqual(town.seating, {"one": "a", "two": "b"})
        danger = town.begin("six", "hall")
        self.assertEqual((danger.falls, danger.masts, town.refused), ((), ("a", "b"), 1))
        self.assertEqual(town.places, {"one": "lift", "two": "hall"})
        other = CrowdTown(PLAN, {}, 0)
        self.assertIsNone(other.begin("one", "hall"))
        danger = other.begin("two", "hall")
        self.assertEqual((danger.masts, sorted(danger.steps)), (("a",), [("one", "lift"), ("two", "lift")]))

    def test_bad_names_change_nothing(self):
        plan = Map({"a": 3, "b": 3}, {"lift": ("a",), "hall": ("a", "b"), "yard": ("b",)},
                   (("lift", "hall"), ("hall", "lift"), ("hall", "hall"), ("hall", "yard"), ("yard", "hall")))
        town = CrowdTown(plan, {"lift": 1, "yard": 0}, 1)
        town.begin("one", "lift")
        town.begin("two", "hall")
        town.fall("b")
        for word, parts, name in (("begin", ("One", "q"), "One"), ("begin", ("one", "yard"), "one"),
                                  ("begin", (None, "yard"), None), ("begin", ("six", "q"), "q"),
                                  ("begin", ("six", None), None), ("begin", ("six", "lift"), "lift"),
                                  ("begin", ("six", "yard"), "yard"), ("begin", ("six", ["hall"]), ["hall"]),
                                  ("go", ("six", "hall"), "six"), ("go", ("six", "yard"), "six"),
                                  ("go", ("two", "lift"), "lift"), ("go", ("two", "yard"), "yard"),
                                  ("go", ("two", "hall"), "hall"), ("go", ("one", "lift"), "lift"),
                                  ("go", ("one", "yard"), "yard"), ("go", ("one", "q"), "q"),
                                  ("go", ("two", None), None), ("end", ("six",), "six"), ("fall", ("b",), "b"),
                                  ("fall", ("a",), "a"), ("fall", ("q",), "q"), ("rise", ("a",), "a")):
            was = picture(town)
            with self.assertRaises(BadName, msg=(word, parts)) as caught:
                getattr(town, word)(*parts)
            self.assertEqual(caught.exception.name, name)
            self.assertEqual(picture(town), was)

    def test_is_safe_looks_at_the_calls(self):
        town = CrowdTown(PLAN, {"lift": 1}, 0)
        for places, answer in (({"one": "hall", "two": "hall"}, True), ({"one": "hall", "two": "lift"}, True),
                               ({"one": "hall", "two": "hall", "six": "hall"}, False)):
            town.places = places
            self.assertIs(town.is_safe(), answer)
        town.places, town.limits = {"one": "hall", "two": "hall"}, {}
        self.assertFalse(town.is_safe())


class DrawnCrowdTownTest(unittest.TestCase):

    def step(self, random, town):
        """A deed that may well be barred."""
        zones = list(town.plan.heard) + ["q"]
        masts = list(town.plan.channels) + ["q"]
        name = random.choice(["c0", "c1", "c2", "c3", "C"])
        if town.places and random.random() < 0.5:
            name = random.choice(list(town.places))
            zone = random.choice(town.plan.next_zones(town.places[name]) + [random.choice(zones)])
            return random.choice([("go", (name, zone))] * 4 + [("end", (name,))])
        mast = random.choice(town.down) if town.down and random.random() < 0.4 else random.choice(masts)
        return random.choice([("begin", (name, random.choice(zones)))] * 3 + [("fall", (mast,)), ("rise", (mast,))])

    def is_barred(self, town, word, parts):
        """What BadName must have; None if it must not be raised."""
        name, zone = parts[0], parts[-1]
        counts = list(town.places.values())
        if word == "begin":
            if name == "C" or name in town.places:
                return name
            is_free = zone in town.plan.heard and counts.count(zone) < town.limits.get(zone, 99)
            return None if is_free else zone
        if word in ("go", "end") and name not in town.places:
            return name
        if word == "go":
            here = town.places[name]
            is_free = zone != here and (here, zone) in town.plan.roads and counts.count(zone) < town.limits.get(zone, 99)
            return None if is_free else zone
        if word == "fall":
            is_up = name in town.plan.channels and name not in town.down and len(town.down) < town.most
            return None if is_up else name
        return name if word == "rise" and name not in town.down else None

    def check(self, town, word, parts):
        """Does a deed, and holds it against the document; which kind of deed it was."""
        barred, was = self.is_barred(town, word, parts), picture(town)
        places = dict(town.places)
        if barred is not None:
            with self.assertRaises(BadName) as caught:
                getattr(town, word)(*parts)
            self.assertEqual((caught.exception.name, picture(town)), (barred, was))
            return "barred"
        told = getattr(town, word)(*parts)
        if word == "begin":
            places[parts[0]] = parts[1]
            many = fewest_falls(town.plan, town.limits, places, town.most)
            self.assertEqual(None if told is None else len(told.falls), many)
            if told is not None:
                self.assertTrue(is_crowd_danger(town.plan, town.limits, places, town.most, told))
                self.assertEqual(picture(town), was[:4] + (was[4] + 1,) + was[5:])
                return "refused"
        if word != "begin":
            before = dict(was[3])
            moves = tuple(name for name, mast in town.seating.items() if before.get(name) != mast)
            self.assertEqual(told, moves)
            self.assertEqual(town.moved, was[5] + sum(name in before for name in moves))
        self.check_town(town)
        return word

    def check_town(self, town):
        """Each call that is heard has a seat on a mast that hears it, and no zone has more than it lets in."""
        scene = town.scene()
        heard = {name: [mast for mast in town.plan.heard[zone] if mast not in town.down]
                 for name, zone in town.places.items()}
        self.assertEqual(list(town.seating), sorted(name for name in heard if heard[name]))
        self.assertIsNone(wrong_seating(scene, town.seating))
        for name, mast in town.seating.items():
            self.assertIn(mast, heard[name])
        for zone, limit in town.limits.items():
            self.assertLessEqual(list(town.places.values()).count(zone), limit)
        self.assertTrue(town.is_safe())
        self.assertIsNone(fewest_falls(town.plan, town.limits, town.places, town.most))

    def test_drawn_towns(self):
        random = Random(431)
        kinds = {}
        for _ in range(120):
            plan = with_ways_back(drawn_map(random, most_masts=4, most_channels=3, most_roads=5))
            was = copy_of(plan)
            limits = drawn_limits(random, plan)
            town = CrowdTown(plan, limits, random.randint(0, 2))
            twin = CrowdTown(copy_of(plan), dict(limits), town.most)
            for _ in range(25):
                word, parts = self.step(random, town)
                kind = self.check(town, word, parts)
                kinds[kind] = kinds.get(kind, 0) + 1
                if kind != "barred":
                    getattr(twin, word)(*parts)
                self.assertEqual(picture(twin), picture(town))
            self.assertEqual((plan, limits), (was, town.limits))
        for kind in ("barred", "refused", "begin", "go", "end", "fall", "rise"):
            self.assertGreater(kinds[kind], 30, kinds)
