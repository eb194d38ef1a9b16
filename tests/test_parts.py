"""[29]: parts of a town."""

import unittest
from random import Random

from mastcalls.maps import Map
from mastcalls.parts import danger_by_parts, joined, parts_of, zones_of_parts
from mastcalls.safety import danger_for
from tests.drawn import copy_of, drawn_map, drawn_maps, drawn_places, first_falls, is_least, is_shown


def other_names(plan):
    """The map with a 2 behind all names."""
    heard = {zone + "2": [mast + "2" for mast in masts] for zone, masts in plan.heard.items()}
    roads = [(zone + "2", other + "2") for zone, other in plan.roads]
    return Map({mast + "2": many for mast, many in plan.channels.items()}, heard, roads)


def groups_of(plan):
    """The zones of parts: each zone, mast and road is put to all groups with which it has something in common."""
    groups = []
    things = [({("zone", zone)} | {("mast", mast) for mast in masts}) for zone, masts in plan.heard.items()]
    things += [{("zone", one), ("zone", other)} for one, other in plan.roads]
    for thing in things:
        touched = [group for group in groups if group & thing]
        groups = [group for group in groups if not group & thing] + [thing.union(*touched)]
    return sorted(tuple(sorted(name for kind, name in group if kind == "zone")) for group in groups)


class PartsTest(unittest.TestCase):

    def setUp(self):
        self.plan = Map({"a": 1, "b": 2, "c": 3, "d": 4},
                        {"u": ("a",), "v": (), "w": ("c",), "x": ("a", "b"), "y": (), "z": ("b",)},
                        (("v", "w"), ("v", "v"), ("w", "v"), ("u", "z")))

    def test_some(self):
        self.assertEqual(zones_of_parts(self.plan), [("u", "x", "z"), ("v", "w"), ("y",)])
        self.assertEqual(parts_of(self.plan), [
            Map({"a": 1, "b": 2}, {"u": ("a",), "x": ("a", "b"), "z": ("b",)}, (("u", "z"),)),
            Map({"c": 3}, {"v": (), "w": ("c",)}, (("v", "v"), ("v", "w"), ("w", "v"))),
            Map({}, {"y": ()}, ())])
        self.assertEqual((zones_of_parts(Map({"a": 1}, {}, ())), parts_of(Map({"a": 1}, {}, ()))), ([], []))

    def test_a_road_the_other_way_joins_too(self):
        plan = Map({}, {"x": (), "y": (), "z": ()}, (("z", "y"), ("z", "x")))
        self.assertEqual(zones_of_parts(plan), [("x", "y", "z")])

    def test_a_mast_with_the_name_of_a_zone_joins_nothing(self):
        plan = Map({"y": 1}, {"x": ("y",), "y": (), "z": ()}, ())
        self.assertEqual(zones_of_parts(plan), [("x",), ("y",), ("z",)])

    def test_drawn_maps(self):
        for plan in drawn_maps(500, 291, most_masts=4, most_roads=3) + drawn_maps(100, 292, most_masts=1, most_roads=1):
            was = copy_of(plan)
            zones, parts = zones_of_parts(plan), parts_of(plan)
            self.assertEqual(zones, groups_of(plan))
            self.assertEqual([tuple(part.heard) for part in parts], zones)
            for at, part in enumerate(parts):
                self.assertEqual(part.heard, {zone: plan.heard[zone] for zone in zones[at]})
                masts = {mast for heard in part.heard.values() for mast in heard}
                self.assertEqual(part.channels, {mast: plan.channels[mast] for mast in masts})
                for other in parts[:at]:
                    self.assertFalse(set(part.channels) & set(other.channels))
            self.assertEqual(tuple(sorted(road for part in parts for road in part.roads)), plan.roads)
            self.assertEqual((plan, parts_of(plan)), (was, parts))


class JoinedTest(unittest.TestCase):

    def test_all_of_both(self):
        one = Map({"b": 1}, {"z": ("b",), "y": ()}, (("z", "y"),))
        other = Map({"a": 2}, {"x": ("a",)}, (("x", "x"),))
        plan = Map({"a": 2, "b": 1}, {"x": ("a",), "y": (), "z": ("b",)},
                   (("x", "x"), ("x", "z"), ("y", "x"), ("z", "y")))
        self.assertEqual(joined(one, other, (("x", "z"), ("y", "x"))), plan)
        self.assertEqual(joined(other, one, [("x", "z"), ("y", "x"), ("x", "z")]), plan)
        self.assertEqual(joined(one, Map({}, {}, ()), ()), one)
        self.assertEqual(one, Map({"b": 1}, {"z": ("b",), "y": ()}, (("z", "y"),)))

    def test_two_towns_without_a_road_between_are_safe_exactly_if_both_are(self):
        random = Random(293)
        seen = set()
        for _ in range(600):
            one, other = drawn_map(random, most_zones=2), other_names(drawn_map(random, most_zones=2))
            most = random.randint(0, 2)
            here = drawn_places(random, one, 3)
            there = {name + "2": zone for name, zone in drawn_places(random, other, 2).items()}
            safe = (danger_for(one, here, most) is None, danger_for(other, there, most) is None)
            plan = joined(one, other, [])
            self.assertEqual(danger_for(plan, {**here, **there}, most) is None, all(safe))
            self.assertEqual(zones_of_parts(plan), sorted(zones_of_parts(one) + zones_of_parts(other)))
            seen.add(safe)
        self.assertEqual(len(seen), 4)


class DangerByPartsTest(unittest.TestCase):

    def check(self, plan, places, most):
        was = (copy_of(plan), list(places.items()))
        danger = danger_by_parts(plan, places, most)
        self.assertEqual(danger is None, first_falls(plan, places, most) is None)
        self.assertEqual((plan, list(places.items())), was)
        for part in parts_of(plan):
            theirs = {name: zone for name, zone in places.items() if zone in part.heard}
            falls = first_falls(part, theirs, most)
            if falls is not None:
                self.assertEqual(danger.falls, falls)
                self.assertTrue(is_shown(part, theirs, most, danger))
                self.assertTrue(is_least(part, theirs, danger))
                self.assertTrue(is_shown(plan, places, most, danger))
                return len(falls)
        self.assertIsNone(danger)
        return None

    def test_drawn_maps(self):
        random = Random(294)
        seen = set()
        for _ in range(1200):
            plan = drawn_map(random, most_zones=3, most_roads=2)
            if random.random() < 0.4:
                one = drawn_map(random, most_masts=2, most_zones=2, most_roads=2)
                plan = joined(one, other_names(drawn_map(random, most_masts=2, most_zones=2, most_roads=2)), ())
            seen.add(self.check(plan, drawn_places(random, plan), random.randint(0, 3)))
        self.assertEqual(seen, {None, 0, 1})

    def test_the_first_part_that_has_one(self):
        plan = Map({"a": 1, "b": 1, "c": 0}, {"y": ("a", "b"), "z": ("c",)}, ())
        places = {"p": "z", "q": "y", "r": "y"}
        self.assertEqual(danger_by_parts(plan, places, 0).masts, ("c",))
        self.assertEqual(danger_by_parts(plan, places, 1).falls, ("a",))
        self.assertEqual(danger_for(plan, places, 1).masts, ("c",))
