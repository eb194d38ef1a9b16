"""[22], [24]: dangers, what shows, the greatest load."""

import unittest
from itertools import combinations_with_replacement
from random import Random

from mastcalls.maps import Map
from mastcalls.safety import Danger, danger_for, greatest_load, is_way, shows
from tests.drawn import (copy_of, drawn_map, drawn_maps, drawn_places, first_falls, is_along, is_least, is_shown,
                         spoilt, walks_from)

PLAN = Map({"a": 1, "b": 2}, {"dale": ("a", "b"), "hill": ("a",)}, (("dale", "hill"),))
BOTH = {"ann": "dale", "ben": "dale"}


class DangerTest(unittest.TestCase):

    def test_attributes(self):
        danger = Danger(["b", "a"], ["d", "c"], {"y": ["hill"], "x": ("dale", "hill")})
        self.assertEqual((danger.falls, danger.masts), (("b", "a"), ("d", "c")))
        self.assertEqual(danger.ways, {"y": ("hill",), "x": ("dale", "hill")})

    def test_arguments_are_not_changed(self):
        ways = {"y": ["hill"]}
        danger = Danger([], [], ways)
        danger.ways["x"] = ()
        self.assertEqual(ways, {"y": ["hill"]})

    def test_equal_if_all_of_them_is(self):
        danger = Danger(("a",), ("b",), {"x": ("hill",)})
        self.assertEqual(danger, Danger(["a"], ["b"], {"x": ["hill"]}))
        for other in (Danger((), ("b",), {"x": ("hill",)}), Danger(("a",), ("a",), {"x": ("hill",)}),
                      Danger(("a",), ("b",), {"x": ("dale",)}), Danger(("a",), ("b",), {})):
            self.assertNotEqual(danger, other)
        self.assertNotEqual(danger, None)
        self.assertNotEqual(danger, (("a",), ("b",), {"x": ("hill",)}))


class DangerForTest(unittest.TestCase):

    def test_the_example(self):
        danger = danger_for(PLAN, BOTH, 0)
        self.assertEqual(danger.ways, {"ann": ("dale", "hill"), "ben": ("dale", "hill")})
        self.assertEqual((danger.falls, danger.masts), ((), ("a",)))
        self.assertEqual((greatest_load(PLAN, 0), greatest_load(PLAN, 1)), (1, 1))

    def test_none_without_calls_or_without_masts(self):
        self.assertIsNone(danger_for(PLAN, {}, 5))
        self.assertIsNone(danger_for(Map({}, {"z": ()}, ()), {"x": "z", "y": "z"}, 5))
        self.assertIsNone(danger_for(Map({"a": 0}, {"z": ()}, ()), {"x": "z"}, 1))

    def test_who_rests_may_go_to_where_it_is_heard(self):
        plan = Map({"a": 0}, {"y": (), "z": ("a",)}, (("y", "z"),))
        self.assertEqual(danger_for(plan, {"x": "y"}, 0), Danger((), ("a",), {"x": ("y", "z")}))

    def test_falls_are_as_few_as_can_be_then_the_least(self):
        heard = {"z": ("a", "b", "c")}
        plan = Map({"a": 1, "b": 1, "c": 1, "d": 0}, heard, ())
        for many, falls in ((4, ()), (3, ("a",)), (2, ("a", "b"))):
            places = {"c" + str(at): "z" for at in range(many)}
            self.assertIsNone(danger_for(plan, places, len(falls) - 1) if falls else None)
            for most in range(len(falls), 6):
                self.assertEqual(danger_for(plan, places, most).falls, falls)
        self.assertIsNone(danger_for(plan, {"x": "z"}, 9))
        self.assertIsNone(danger_for(plan, {"x": "z"}, 10 ** 12))

    def check(self, plan, places, most, random):
        was = (copy_of(plan), list(places.items()))
        danger = danger_for(plan, places, most)
        falls = first_falls(plan, places, most)
        self.assertEqual((plan, list(places.items())), was)
        again = danger_for(plan, dict(reversed(places.items())), most)
        self.assertEqual(again, danger)
        if falls is None:
            self.assertIsNone(danger)
            return False
        self.assertEqual(danger.falls, falls)
        self.assertTrue(is_shown(plan, places, most, danger))
        self.assertTrue(is_least(plan, places, danger))
        self.assertTrue(shows(plan, places, most, danger))
        self.assertEqual((list(danger.ways), list(again.ways)), (sorted(danger.ways), sorted(danger.ways)))
        self.assertEqual(danger.masts, tuple(sorted(danger.masts)))
        for _ in range(12):
            other = spoilt(random, plan, danger)
            if random.random() < 0.3:
                other = spoilt(random, plan, other)
            for limit in (most, len(falls), len(falls) - 1):
                self.assertEqual(shows(plan, places, limit, other), is_shown(plan, places, limit, other))
        return True

    def test_drawn_maps(self):
        random = Random(221)
        seen = {True: 0, False: 0}
        for _ in range(4000):
            plan = drawn_map(random)
            places = drawn_places(random, plan)
            seen[self.check(plan, places, random.randint(0, 3), random)] += 1
        self.assertGreater(min(seen.values()), 200)

    def test_drawn_maps_with_four_masts(self):
        random = Random(222)
        for _ in range(600):
            plan = drawn_map(random, most_masts=4, most_channels=3)
            self.check(plan, drawn_places(random, plan, 5), random.randint(0, 4), random)

    def test_a_larger_town(self):
        # A ring of zones, each with its own mast and the next one's.
        masts = ["m" + str(at) for at in range(12)]
        heard = {"z" + str(at): (masts[at], masts[(at + 1) % 12]) for at in range(12)}
        roads = [("z" + str(at), "z" + str((at + 1) % 12)) for at in range(12)]
        plan = Map({mast: 4 for mast in masts}, heard, roads)
        calls = ["c" + str(at) for at in range(9)]
        self.assertIsNone(danger_for(plan, {call: "z5" for call in calls[:8]}, 0))
        self.assertIsNone(danger_for(plan, {call: "z5" for call in calls[:4]}, 2))
        self.assertEqual(danger_for(plan, {call: "z5" for call in calls[:5]}, 2).falls, ("m0",))
        danger = danger_for(plan, {call: "z5" for call in calls}, 0)
        self.assertEqual((len(danger.ways), len(danger.masts)), (9, 2))


class ShowsTest(unittest.TestCase):

    def setUp(self):
        self.ways = {"ann": ("dale", "hill"), "ben": ("dale", "hill")}

    def test_what_shows(self):
        self.assertTrue(shows(PLAN, BOTH, 0, Danger((), ("a",), self.ways)))
        self.assertTrue(shows(PLAN, BOTH, 1, Danger(("b",), ("a",), {"ann": ("dale",), "ben": ("dale", "hill")})))
        three = {"ann": "dale", "ben": "dale", "cat": "hill"}
        ways = {"ann": ("dale",), "ben": ("dale", "hill"), "cat": ("hill",)}
        self.assertTrue(shows(PLAN, three, 1, Danger(("b",), ("a",), ways)))

    def test_masts_that_are_down_may_be_among_the_masts(self):
        self.assertTrue(shows(PLAN, BOTH, 1, Danger(("b",), ("a", "b"), {"ann": ("dale",), "ben": ("dale",)})))
        self.assertTrue(shows(PLAN, BOTH, 1, Danger(("b",), ("b", "a"), self.ways)))

    def test_what_does_not_show(self):
        for danger, most in ((Danger((), ("a",), {"ann": ("dale", "hill")}), 0),
                             (Danger((), ("a",), {"ann": ("dale",), "ben": ("dale", "hill")}), 0),
                             (Danger((), ("a", "b"), self.ways), 0),
                             (Danger((), ("a", "a"), self.ways), 0),
                             (Danger((), ("a", "q"), self.ways), 0),
                             (Danger((), ("hill",), self.ways), 0),
                             (Danger((), (), self.ways), 0),
                             (Danger((), (), {}), 0),
                             (Danger((), ("a",), {"ann": ("dale", "hill"), "bob": ("dale", "hill")}), 0),
                             (Danger((), ("a",), {"ann": ("dale", "hill"), "ben": ("hill",)}), 0),
                             (Danger((), ("a",), {"ann": ("dale", "hill"), "ben": ()}), 0),
                             (Danger((), ("a",), {"ann": ("dale", "hill"), "ben": ("dale", "hill", "hill")}), 0),
                             (Danger((), ("a",), {"ann": ("dale", "hill"), "ben": ("dale", "dale", "hill")}), 0),
                             (Danger((), ("a",), {"ann": ("dale", "hill"), "ben": ("dale", "q")}), 0),
                             (Danger(("b",), ("a",), self.ways), 0),
                             (Danger(("b", "b"), ("a",), self.ways), 2),
                             (Danger(("q",), ("a",), self.ways), 1),
                             (Danger(("a",), ("b",), self.ways), 1),
                             (Danger(("a", "b"), ("a", "b"), self.ways), 2)):
            self.assertFalse(shows(PLAN, BOTH, most, danger), vars(danger))
        self.assertFalse(shows(PLAN, {"ann": "dale"}, 0, Danger((), ("a",), self.ways)))

    def test_nothing_is_changed(self):
        danger = Danger((), ("a",), self.ways)
        for _ in range(2):
            self.assertTrue(shows(PLAN, BOTH, 0, danger))
        self.assertEqual(danger, Danger((), ("a",), self.ways))
        self.assertEqual(BOTH, {"ann": "dale", "ben": "dale"})


class IsWayTest(unittest.TestCase):

    def test_some(self):
        for way in (("dale",), ("hill",), ("dale", "hill")):
            self.assertTrue(is_way(PLAN, way))
        for way in ((), ("q",), ("a",), ("hill", "dale"), ("dale", "dale"), ("dale", "q"), ("q", "dale"),
                    ("dale", "hill", "dale")):
            self.assertFalse(is_way(PLAN, way), way)

    def test_drawn_maps(self):
        random = Random(223)
        for plan in drawn_maps(150, 224):
            zones = list(plan.heard) + ["q"]
            for _ in range(40):
                way = tuple(random.choice(zones) for _ in range(random.randint(0, 3)))
                self.assertEqual(is_way(plan, way), is_along(plan, way))
            for zone in plan.heard:
                self.assertTrue(all(is_way(plan, walk) for walk in walks_from(plan, zone)))


class GreatestLoadTest(unittest.TestCase):

    def test_no_end_of_it(self):
        for plan in (Map({}, {}, ()), Map({"a": 0}, {}, ()), Map({"a": 1}, {"z": ()}, (("z", "z"),))):
            for most in (0, 1, 5):
                self.assertIsNone(greatest_load(plan, most))

    def test_some_mast_stays_up(self):
        plan = Map({"a": 1, "b": 2, "c": 4}, {"z": ("a", "b", "c"), "y": ()}, ())
        self.assertEqual([greatest_load(plan, most) for most in range(5)], [7, 3, 1, 1, 1])
        self.assertEqual(greatest_load(Map({"a": 0}, {"z": ("a",)}, ()), 0), 0)

    def is_safe_everywhere(self, plan, many, most):
        for zones in combinations_with_replacement(list(plan.heard), many):
            places = {"c" + str(at): zone for at, zone in enumerate(zones)}
            if first_falls(plan, places, most) is not None:
                return False
        return True

    def test_drawn_maps(self):
        seen = set()
        for plan in drawn_maps(120, 241, most_zones=3, most_roads=4):
            for most in (0, 1, 2):
                load = greatest_load(plan, most)
                seen.add(load)
                self.assertEqual(load is None, not any(plan.heard.values()))
                if load is not None:
                    self.assertTrue(self.is_safe_everywhere(plan, load, most))
                    self.assertFalse(self.is_safe_everywhere(plan, load + 1, most))
        self.assertTrue(seen >= {None, 0, 1, 2})
