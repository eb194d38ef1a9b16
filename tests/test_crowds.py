"""[40], [41]: crowded zones, by going step by step."""

import unittest
from random import Random

from mastcalls.crowderrors import TooMany
from mastcalls.crowds import (CrowdDanger, counts_of, crowd_danger, is_standing, shows_crowd, standings_from)
from mastcalls.maps import Map
from tests.crowded import (all_counts, counts_by_hand, drawn_limits, drawn_standing, fewest_falls, is_crowd_danger,
                           spoilt_crowd, with_ways_back)
from tests.drawn import copy_of, drawn_map

# From the hall one way to the lift, and to the yard and back.
PLAN = Map({"a": 1, "b": 1}, {"lift": ("a",), "hall": ("a", "b"), "yard": ()},
           (("hall", "lift"), ("hall", "yard"), ("yard", "hall"), ("lift", "lift")))


class CountsTest(unittest.TestCase):

    def test_counts_of(self):
        self.assertEqual(counts_of(PLAN, {"two": "lift", "one": "hall", "six": "lift"}), (1, 2, 0))
        self.assertEqual(counts_of(PLAN, {}), (0, 0, 0))
        self.assertEqual(counts_of(Map({}, {}, ()), {}), ())

    def test_is_standing(self):
        places = {"one": "hall", "two": "lift"}
        for limits, places, answer in (({}, places, True), ({"lift": 1, "hall": 1}, places, True),
                                       ({"lift": 0}, places, False), ({"yard": 0}, places, True), ({}, {}, True),
                                       ({"hall": 0}, {}, True), ({}, {"one": "attic"}, False),
                                       ({}, {"one": "a"}, False), ({}, {"one": None}, False),
                                       ({"hall": 1}, {"one": "hall", "two": "hall"}, False),
                                       ({"hall": 2}, {"one": "hall", "two": "hall"}, True),
                                       ({}, {"one": "hall", "two": ["hall"]}, False)):
            self.assertIs(is_standing(PLAN, limits, places), answer, (limits, places))

    def test_standings_from(self):
        told = standings_from(PLAN, {"lift": 1}, (2, 0, 0), 99)
        self.assertEqual(list(told), [(0, 0, 2), (0, 1, 1), (1, 0, 1), (1, 1, 0), (2, 0, 0)])
        self.assertEqual((told[2, 0, 0], told[1, 1, 0]), ((), (("hall", "lift"),)))
        self.assertEqual(sorted(told[0, 1, 1]), [("hall", "lift"), ("hall", "yard")])
        self.assertEqual(told[0, 0, 2], (("hall", "yard"),) * 2)
        # Nobody comes back from the lift.
        self.assertEqual(list(standings_from(PLAN, {}, (0, 2, 0), 1)), [(0, 2, 0)])
        self.assertEqual(standings_from(PLAN, {"lift": 0, "yard": 0}, (2, 0, 0), 1), {(2, 0, 0): ()})
        self.assertEqual(standings_from(Map({}, {}, ()), {}, (), 1), {(): ()})

    def test_more_than_may_be(self):
        for most in (-1, 0, 1, 2, 3, 4):
            with self.assertRaises(TooMany) as caught:
                standings_from(PLAN, {"lift": 1}, (2, 0, 0), most)
            self.assertEqual(caught.exception.most, most)
        for most in (5, 6, 1000):
            self.assertEqual(len(standings_from(PLAN, {"lift": 1}, (2, 0, 0), most)), 5)
        with self.assertRaises(TooMany):
            standings_from(Map({}, {}, ()), {}, (), 0)

    def test_drawn_maps(self):
        random = Random(401)
        longest = 0
        for _ in range(400):
            plan = drawn_map(random, most_roads=8)
            limits = drawn_limits(random, plan)
            places = drawn_standing(random, plan, limits)
            was = copy_of(plan), dict(limits), dict(places)
            self.assertTrue(is_standing(plan, limits, places))
            counts = counts_of(plan, places)
            self.assertEqual(counts, counts_by_hand(plan, places))
            needed = all_counts(plan, limits, places)
            told = standings_from(plan, limits, counts, len(needed))
            self.assertEqual(list(told), sorted(needed))
            for there, moves in told.items():
                self.assertEqual(len(moves), needed[there])
                self.assertEqual(self.walked(plan, limits, counts, moves), there)
                longest = max(longest, len(moves))
            for most in range(max(0, len(needed) - 3), len(needed)):
                with self.assertRaises(TooMany):
                    standings_from(plan, limits, counts, most)
            self.assertEqual((plan, limits, places), was)
            self.assertEqual(standings_from(plan, limits, counts, 9999), told)
        self.assertGreater(longest, 4)

    def walked(self, plan, limits, counts, moves):
        """The counts behind some moves, each of which must be one that can be done."""
        names = sorted(plan.heard)
        now = dict(zip(names, counts))
        for zone, other in moves:
            self.assertIn((zone, other), plan.roads)
            self.assertNotEqual(zone, other)
            self.assertGreater(now[zone], 0)
            now[zone] -= 1
            now[other] += 1
            self.assertLessEqual(now[other], limits.get(other, 99))
        return tuple(now[zone] for zone in names)


class CrowdDangerTest(unittest.TestCase):

    def test_attributes_and_equality(self):
        danger = CrowdDanger(["b"], ["a"], [("one", "lift"), ["two", "lift"]])
        self.assertEqual((danger.falls, danger.masts), (("b",), ("a",)))
        self.assertEqual(danger.steps, (("one", "lift"), ("two", "lift")))
        self.assertEqual(danger, CrowdDanger(("b",), ("a",), (("one", "lift"), ("two", "lift"))))
        for other in (CrowdDanger((), ("a",), danger.steps), CrowdDanger(("b",), (), danger.steps),
                      CrowdDanger(("b",), ("a",), danger.steps[:1]), CrowdDanger(("b",), ("a",), danger.steps[::-1]),
                      None, (("b",), ("a",), danger.steps)):
            self.assertFalse(danger == other)

    def test_limits_bar_a_danger(self):
        places = {"one": "hall", "two": "hall"}
        danger = crowd_danger(PLAN, {}, places, 0, 99)
        self.assertEqual((danger.falls, danger.masts), ((), ("a",)))
        self.assertEqual(sorted(danger.steps), [("one", "lift"), ("two", "lift")])
        self.assertIsNone(crowd_danger(PLAN, {"lift": 1}, places, 0, 99))
        self.assertEqual(crowd_danger(PLAN, {"lift": 1}, places, 1, 99).falls, ("a",))
        self.assertIsNone(crowd_danger(PLAN, {}, {}, 2, 1))

    def test_too_many_is_told_ahead_of_all_else(self):
        places = {"one": "hall", "two": "hall", "six": "hall"}
        for most in (0, 1, 9):
            with self.assertRaises(TooMany) as caught:
                crowd_danger(PLAN, {}, places, most, 9)
            self.assertEqual(caught.exception.most, 9)
            self.assertEqual(crowd_danger(PLAN, {}, places, most, 10).falls, ())

    def test_shows(self):
        places = {"one": "hall", "two": "hall"}
        steps = (("one", "lift"), ("two", "lift"))
        for limits, most, falls, masts, row, answer in (
                ({}, 0, (), ("a",), steps, True), ({"lift": 2}, 0, (), ("a",), steps, True),
                ({"lift": 1}, 0, (), ("a",), steps, False), ({}, 0, (), ("a", "b"), steps, False),
                ({}, 0, (), ("a",), steps[:1], False), ({}, 0, ("b",), ("a",), (), False),
                ({}, 1, ("b",), ("a",), (), True), ({}, 2, ("b",), ("a", "b"), (), True),
                ({}, 2, ("b", "b"), ("a",), (), False), ({}, 2, ("b",), ("a", "a"), (), False),
                ({}, 2, ("q",), ("a",), steps, False), ({}, 2, (), ("a", "q"), steps, False),
                ({}, 2, (["b"],), ("a",), (), False), ({}, 2, ("b",), (None,), (), False),
                ({}, 2, ("a", "b"), ("a", "b"), (), False), ({}, 1, ("b",), (), (), False),
                ({}, 1, ("b",), ("a",), (("one", "hall"),), False), ({}, 1, ("b",), ("a",), (("six", "lift"),), False),
                ({}, 1, ("b",), ("a",), (("one", "q"),), False), ({}, 1, ("b",), ("a",), ((None, "lift"),), False),
                ({}, 1, ("b",), ("a",), (("one",),), False), ({}, 1, ("b",), ("a",), (("one", "lift", 1),), False),
                ({}, 1, ("b",), ("a",), (("one", "lift"), ("one", "lift")), False),
                ({}, 1, ("b",), ("a",), (("one", "lift"), ("one", "hall")), False),
                ({}, 1, ("b",), ("a",), (("one", "yard"), ("one", "hall")), True),
                ({}, 1, ("b",), ("a",), (("one", "yard"),), False), ({}, 0, (), (), (), False)):
            danger = CrowdDanger(falls, masts, row)
            self.assertIs(shows_crowd(PLAN, limits, places, most, danger), answer, (limits, most, falls, masts, row))
        self.assertEqual(places, {"one": "hall", "two": "hall"})

    def test_drawn_maps(self):
        random = Random(411)
        found, spared, spoilt_many = {}, 0, {True: 0, False: 0}
        for at in range(4000):
            plan = drawn_map(random, most_masts=4, most_roads=8, most_heard=2 + at % 2)
            if at % 3 == 0:
                plan = with_ways_back(plan)
            limits = drawn_limits(random, plan)
            places = drawn_standing(random, plan, limits, 5)
            most = random.choice([0, 1, 2, 2])
            was = copy_of(plan), dict(limits), dict(places)
            danger = crowd_danger(plan, limits, places, most, 9999)
            many = fewest_falls(plan, limits, places, most)
            self.assertEqual(None if danger is None else len(danger.falls), many)
            found[many] = found.get(many, 0) + 1
            if danger is None:
                spared += fewest_falls(plan, {}, places, most) is not None
            else:
                self.assertTrue(is_crowd_danger(plan, limits, places, most, danger))
                self.assertEqual((list(danger.falls), list(danger.masts)), (sorted(danger.falls), sorted(danger.masts)))
                self.assertTrue(shows_crowd(plan, limits, places, most, danger))
                self.assertEqual(crowd_danger(plan, limits, places, most, 9999), danger)
                for _ in range(5):
                    other = spoilt_crowd(random, plan, danger)
                    answer = is_crowd_danger(plan, limits, places, most, other)
                    self.assertIs(shows_crowd(plan, limits, places, most, other), answer)
                    spoilt_many[answer] += 1
            self.assertEqual((plan, limits, places), was)
        self.assertGreater(min(found[None], found[0], found[1], found[2]), 10, found)
        self.assertGreater(spared, 30)
        self.assertGreater(min(spoilt_many.values()), 100)
