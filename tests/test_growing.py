"""[49], [50]: channels and masts with which a town could grow."""

import unittest
from itertools import combinations, product
from random import Random

from mastcalls.errors import BadName
from mastcalls.growing import fewest_channels, fewest_masts, is_enough, safe_sites, with_masts, with_more
from mastcalls.maps import Map
from tests.drawn import copy_of, drawn_map, drawn_places, first_falls

PLAN = Map({"a": 1, "b": 2}, {"dale": ("b",), "hill": ("a",), "moor": ()}, (("dale", "hill"), ("hill", "moor")))


def lots_of_channels(masts, many):
    """All dicts from masts to so many channels in sum."""
    for counts in product(range(many + 1), repeat=len(masts)):
        if sum(counts) == many:
            yield {mast: count for mast, count in zip(masts, counts) if count}


def drawn_sites(random, plan):
    """Some new masts, in no order."""
    zones = list(plan.heard)
    sites = {}
    for mast in random.sample(["n", "m", "k"], random.randint(0, 3)):
        heard = [random.choice(zones) for _ in range(random.randint(0, 3)) if zones]
        sites[mast] = random.choice([(random.randint(0, 3), tuple(heard)), [random.randint(0, 3), heard]])
    return sites


def copy_of_sites(sites):
    """Other sites that are the same."""
    return {mast: (channels, list(zones)) for mast, (channels, zones) in sites.items()}


class ChannelsTest(unittest.TestCase):

    def test_with_more(self):
        self.assertEqual(with_more(PLAN, {"b": 3}), Map({"a": 1, "b": 5}, PLAN.heard, PLAN.roads))
        self.assertEqual(with_more(PLAN, {"b": 998, "a": 0}), Map({"a": 1, "b": 1000}, PLAN.heard, PLAN.roads))
        self.assertEqual(with_more(PLAN, {}), PLAN)
        self.assertEqual(PLAN.channels, {"a": 1, "b": 2})

    def test_is_enough(self):
        places = {"one": "dale", "two": "dale"}
        self.assertFalse(is_enough(PLAN, places, 0, {}))
        self.assertFalse(is_enough(PLAN, places, 0, {"b": 9}))
        self.assertTrue(is_enough(PLAN, places, 0, {"a": 1}))
        self.assertTrue(is_enough(PLAN, {"one": "dale"}, 2, {}))

    def test_fewest_channels(self):
        self.assertEqual(fewest_channels(PLAN, {"one": "dale", "two": "dale", "six": "dale"}, 0), {"a": 2, "b": 1})
        self.assertEqual(fewest_channels(PLAN, {"one": "dale"}, 2), {})
        self.assertEqual(fewest_channels(PLAN, {}, 1), {})
        self.assertEqual(fewest_channels(Map({}, {}, ()), {}, 1), {})

    def test_with_masts_that_may_be_down(self):
        plan = Map({"a": 0, "b": 0, "c": 0}, {"x": ("a", "b", "c")}, ())
        places = {"one": "x", "two": "x"}
        self.assertEqual(sum(fewest_channels(plan, places, 0).values()), 2)
        self.assertEqual(fewest_channels(plan, places, 1), {"a": 1, "b": 1, "c": 1})
        self.assertEqual(fewest_channels(plan, places, 2), {"a": 2, "b": 2, "c": 2})

    def test_many_channels(self):
        plan = Map({mast: 0 for mast in "abcde"}, {"x": tuple("abcde")}, ())
        places = {"c" + str(at): "x" for at in range(20)}
        for most, many in ((0, 20), (1, 25), (2, 34), (3, 50)):
            more = fewest_channels(plan, places, most)
            self.assertEqual(sum(more.values()), many)
            self.assertTrue(is_enough(plan, places, most, more))

    def test_drawn_maps(self):
        random = Random(491)
        sums = {}
        for at in range(500):
            plan = drawn_map(random, most_masts=3, most_channels=1, most_roads=5, most_heard=2 + at % 2)
            places = drawn_places(random, plan, 4)
            most = random.choice([0, 1, 1, 2])
            was = copy_of(plan), dict(places)
            more = fewest_channels(plan, places, most)
            self.assertEqual(list(more), sorted(more))
            self.assertTrue(all(many >= 1 for many in more.values()))
            least = sum(more.values())
            self.assertTrue(self.is_safe(with_more(plan, more), places, most))
            self.assertTrue(is_enough(plan, places, most, more))
            for many in range(least):
                for fewer in lots_of_channels(list(plan.channels), many):
                    self.assertFalse(is_enough(plan, places, most, fewer))
                    self.assertFalse(self.is_safe(with_more(plan, fewer), places, most))
            sums[least] = sums.get(least, 0) + 1
            self.assertEqual(fewest_channels(plan, places, most), more)
            self.assertEqual((plan, places), was)
        self.assertGreater(min(sums[many] for many in (0, 1, 2, 3, 4)), 10, sums)

    def is_safe(self, plan, places, most):
        """Whether no journey is dangerous, by all journeys."""
        return first_falls(plan, places, most) is None


class SitesTest(unittest.TestCase):

    def test_with_masts(self):
        sites = {"n": (4, ["hill", "dale", "hill"]), "m": (0, ()), "k": (1, ("moor",))}
        self.assertEqual(with_masts(PLAN, sites, ("m", "n")),
                         Map({"a": 1, "b": 2, "m": 0, "n": 4}, {"dale": ("b", "n"), "hill": ("a", "n"), "moor": ()},
                             PLAN.roads))
        self.assertEqual(with_masts(PLAN, sites, ()), PLAN)
        self.assertEqual(sites, {"n": (4, ["hill", "dale", "hill"]), "m": (0, ()), "k": (1, ("moor",))})

    def test_fewest_masts(self):
        places = {"one": "dale", "two": "dale"}
        sites = {"n": (1, ("hill",)), "m": (1, ("moor", "hill")), "k": (5, ("dale",))}
        self.assertEqual(fewest_masts(PLAN, places, 0, sites), ("n",))
        # m is heard alone in the moor, where both calls would have rested.
        self.assertEqual(safe_sites(PLAN, places, 0, sites), [("n",), ("k", "n")])
        self.assertEqual(fewest_masts(PLAN, {"one": "dale"}, 0, sites), ())
        self.assertEqual(fewest_masts(PLAN, places, 0, {"k": (5, ("dale",))}), None)
        self.assertEqual(safe_sites(PLAN, places, 0, {"k": (5, ("dale",))}), [])
        self.assertEqual((fewest_masts(PLAN, places, 0, {}), safe_sites(PLAN, {}, 0, {})), (None, [()]))

    def test_drawn_maps(self):
        random = Random(501)
        found, hurt = {}, 0
        for _ in range(400):
            plan = drawn_map(random, most_masts=3, most_channels=2)
            places = drawn_places(random, plan, 3)
            most = random.randint(0, 2)
            sites = drawn_sites(random, plan)
            was = copy_of(plan), dict(places), copy_of_sites(sites), list(sites)
            lots = [lot for many in range(len(sites) + 1) for lot in combinations(sorted(sites), many)]
            safe = [lot for lot in lots if first_falls(self.by_hand(plan, sites, lot), places, most) is None]
            self.assertEqual(safe_sites(plan, places, most, sites), safe)
            first = safe[0] if safe else None
            self.assertEqual(fewest_masts(plan, places, most, sites), first)
            size = None if first is None else len(first)
            found[size] = found.get(size, 0) + 1
            hurt += () in safe and len(safe) < len(lots)
            for lot in lots:
                self.assertEqual(with_masts(plan, sites, lot), self.by_hand(plan, sites, lot))
            self.assertEqual((plan, places, copy_of_sites(sites), list(sites)), was)
        self.assertGreater(min(found[many] for many in (None, 0, 1)), 10, found)
        self.assertGreater(found[2], 2, found)
        self.assertGreater(hurt, 10)

    def by_hand(self, plan, sites, masts):
        """The map with some masts out of sites."""
        channels = {**plan.channels, **{mast: sites[mast][0] for mast in masts}}
        heard = {zone: [*row, *[mast for mast in masts if zone in sites[mast][1]]] for zone, row in plan.heard.items()}
        return Map(channels, heard, plan.roads)

    def test_wrong_sites(self):
        right = {"n": (1, ("hill",))}
        for sites, name in (({"N": (1, ())}, "N"), ({"": (1, ())}, ""), ({"a": (1, ())}, "a"), ({1: (1, ())}, 1),
                            ({None: (1, ())}, None), ({"abcdefghi": (1, ())}, "abcdefghi"),
                            ({"n": (-1, ())}, -1), ({"n": (1001, ())}, 1001), ({"n": (True, ())}, True),
                            ({"n": (None, ("q",))}, None), ({"n": ("1", ())}, "1"),
                            ({"n": (1, ("q",))}, "q"), ({"n": (1, ("hill", "a", "q"))}, "a"),
                            ({"n": (1, ("hill", None))}, None), ({"n": (1, (["hill"],))}, ["hill"]),
                            ({"A": (-1, ("q",))}, "A"), ({"b": (-1, ("q",))}, "b"), ({"n": (-1, ("q",))}, -1),
                            ({**right, "m": (1, ("q",)), "A": (1, ())}, "q"),
                            ({**right, "m": (-1, ()), "A": (1, ())}, -1),
                            ({"z": (1, ("q",)), "A": (1, ())}, "q"), ({"A": (1, ()), "m": (-1, ())}, "A")):
            for step in (fewest_masts, safe_sites):
                for places in ({}, {"one": "dale", "two": "dale"}):
                    was = list(sites)
                    with self.assertRaises(BadName, msg=sites) as caught:
                        step(PLAN, places, 1, sites)
                    self.assertEqual(caught.exception.name, name)
                    self.assertIs(type(caught.exception.name), type(name))
                    self.assertEqual(list(sites), was)
        # A mast may have the name of a zone; a channel count may be 0 or 1000.
        self.assertEqual(fewest_masts(PLAN, {}, 1, {"hill": (0, ("hill",)), "n": (1000, ())}), ())
