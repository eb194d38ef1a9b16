"""[21]: maps, what is none, ways."""

import unittest
from random import Random

from mastcalls.errors import BadScene
from mastcalls.maps import Map
from tests.drawn import copy_of, drawn_maps, walks_from

# What is handed in, and the word for what is wrong first.
WRONG = [
    (({"A": 1}, {}, ()), "mast"),
    (({"": 1}, {}, ()), "mast"),
    (({"abcdefghi": 1}, {}, ()), "mast"),
    (({7: 1}, {}, ()), "mast"),
    (({"a": -1}, {}, ()), "channels"),
    (({"a": 1001}, {}, ()), "channels"),
    (({"a": True}, {}, ()), "channels"),
    (({"a": "1"}, {}, ()), "channels"),
    (({"a": None, "B": 1}, {}, ()), "channels"),
    (({"B": 1, "a": None}, {}, ()), "mast"),
    (({"B": None}, {}, ()), "mast"),
    (({"a": 1001}, {"Z": ()}, (("q", "q"),)), "channels"),
    (({"a": 1}, {"Z": ()}, ()), "zone"),
    (({"a": 1}, {"1z": ()}, ()), "zone"),
    (({"a": 1}, {None: ()}, ()), "zone"),
    (({"a": 1}, {"z": ("b",)}, ()), "heard"),
    (({"a": 1}, {"z": ("a", "a")}, ()), "heard"),
    (({"a": 1}, {"z": ("z",)}, ()), "heard"),
    (({"a": 1}, {"z": ("b",), "Y": ()}, ()), "heard"),
    (({"a": 1}, {"Y": (), "z": ("b",)}, ()), "zone"),
    (({"a": 1}, {"Y": ("b",)}, ()), "zone"),
    (({"a": 1}, {"z": ("b",)}, (("z", "q"),)), "heard"),
    (({"a": 1}, {"z": ()}, (("z", "q"),)), "road"),
    (({"a": 1}, {"z": ()}, (("q", "z"),)), "road"),
    (({"a": 1}, {"z": ()}, (("z", "a"),)), "road"),
    (({"a": 1}, {"z": ()}, (("z", "z"), ("z",))), "road"),
    (({"a": 1}, {"z": ()}, (("z", "z", "z"),)), "road"),
    (({"a": 1}, {"z": ()}, ((),)), "road"),
    (({"a": 1}, {"z": ()}, ("zz",)), "road"),
    (({"a": 1}, {"z": ()}, (None,)), "road"),
    (({}, {}, (("z", "z"),)), "road"),
]


def first_wrong(channels, heard, roads):
    """The word for what is wrong first, in the told order; None if nothing is."""
    words = []
    for mast, many in channels.items():
        words += ["mast"] * (mast != mast.lower()) + ["channels"] * (not 0 <= many <= 1000)
    for zone, masts in heard.items():
        words += ["zone"] * (zone != zone.lower())
        words += ["heard"] * any(mast not in channels or masts.count(mast) > 1 for mast in masts)
    words += ["road"] * any(zone not in heard for road in roads for zone in road)
    return words[0] if words else None


class MapTest(unittest.TestCase):

    def setUp(self):
        self.plan = Map({"b": 2, "a": 1, "c": 0}, {"hill": ["b", "a"], "b": ("c",), "dale": []},
                        [("hill", "dale"), ["dale", "b"], ("hill", "b"), ("hill", "dale"), ("b", "b")])

    def test_attributes(self):
        plan = self.plan
        self.assertEqual(list(plan.channels.items()), [("a", 1), ("b", 2), ("c", 0)])
        self.assertEqual(list(plan.heard.items()), [("b", ("c",)), ("dale", ()), ("hill", ("a", "b"))])
        self.assertEqual(plan.roads, (("b", "b"), ("dale", "b"), ("hill", "b"), ("hill", "dale")))
        empty = Map({}, {}, ())
        self.assertEqual((empty.channels, empty.heard, empty.roads), ({}, {}, ()))
        self.assertEqual(Map({"a": 1000, "b": 0}, {}, ()).channels, {"a": 1000, "b": 0})

    def test_arguments_are_not_changed(self):
        channels, heard, roads = {"b": 1, "a": 2}, {"z": ["b", "a"], "y": []}, [["z", "y"], ["y", "z"], ["z", "y"]]
        plan = Map(channels, heard, roads)
        plan.channels["c"] = 1
        plan.heard["x"] = ()
        self.assertEqual(list(channels.items()), [("b", 1), ("a", 2)])
        self.assertEqual(list(heard.items()), [("z", ["b", "a"]), ("y", [])])
        self.assertEqual(roads, [["z", "y"], ["y", "z"], ["z", "y"]])

    def test_what_is_no_map(self):
        for told, word in WRONG:
            with self.assertRaises(BadScene, msg=told) as caught:
                Map(*told)
            self.assertEqual(caught.exception.word, word, told)

    def test_what_is_no_map_with_several_things_wrong(self):
        random = Random(211)
        seen = set()
        for _ in range(3000):
            channels = {mast: random.choice([0, 5, 1000, 1, 2, 3, 4, 1001, -1]) for mast in random.sample("abcA", 3)}
            zones = random.sample(["hill", "dale", "moor", "Lake"], 3)
            masts = list(channels) + ["a"] * (random.random() < 0.2)
            heard = {zone: [random.choice(masts) for _ in range(random.randint(0, 2))] for zone in zones}
            zones += ["q"] * (random.random() < 0.5)
            roads = [(random.choice(zones), random.choice(zones)) for _ in range(2)]
            word = first_wrong(channels, heard, roads)
            seen.add(word)
            if word is None:
                Map(channels, heard, roads)
            else:
                with self.assertRaises(BadScene) as caught:
                    Map(channels, heard, roads)
                self.assertEqual(caught.exception.word, word, (channels, heard, roads))
        self.assertEqual(seen, {None, "mast", "channels", "zone", "heard", "road"})

    def test_equal_if_all_of_them_is(self):
        same = Map({"a": 1, "b": 2, "c": 0}, {"b": ["c"], "dale": (), "hill": ("a", "b")}, self.plan.roads)
        self.assertEqual(self.plan, same)
        heard = self.plan.heard
        for other in (Map({"a": 1, "b": 2, "c": 1}, heard, self.plan.roads),
                      Map(self.plan.channels, {**heard, "dale": ("a",)}, self.plan.roads),
                      Map(self.plan.channels, {**heard, "moor": ()}, self.plan.roads),
                      Map(self.plan.channels, heard, self.plan.roads[1:])):
            self.assertNotEqual(self.plan, other)
        self.assertNotEqual(self.plan, "plan")
        self.assertNotEqual(self.plan, None)

    def test_next_zones(self):
        self.assertEqual(self.plan.next_zones("hill"), ["b", "dale"])
        self.assertEqual(self.plan.next_zones("dale"), ["b"])
        self.assertEqual(self.plan.next_zones("b"), ["b"])
        self.assertEqual(Map({}, {"z": ()}, ()).next_zones("z"), [])
        self.plan.next_zones("hill").append("hill")
        self.assertEqual(self.plan.next_zones("hill"), ["b", "dale"])

    def test_up_masts(self):
        self.assertEqual(self.plan.up_masts("hill", ()), ("a", "b"))
        self.assertEqual(self.plan.up_masts("hill", ("a", "c")), ("b",))
        self.assertEqual(self.plan.up_masts("hill", ["b", "a"]), ())
        self.assertEqual(self.plan.up_masts("dale", ()), ())

    def test_room(self):
        self.assertEqual(self.plan.room(("a", "b")), 3)
        self.assertEqual(self.plan.room(["b", "b"]), 4)
        self.assertEqual(self.plan.room(()), 0)


class ReachTest(unittest.TestCase):

    def check(self, plan):
        was = copy_of(plan)
        for zone in plan.heard:
            walks = walks_from(plan, zone)
            ends = {walk[-1] for walk in walks}
            ways = plan.reach(zone)
            self.assertEqual(set(ways), ends)
            self.assertEqual(ways[zone], (zone,))
            for end, way in ways.items():
                self.assertIsInstance(way, tuple)
                self.assertIn(way, walks)
                self.assertEqual(way[-1], end)
                self.assertEqual(len(way), min(len(walk) for walk in walks if walk[-1] == end))
            self.assertEqual(plan.reach(zone), ways)
            self.assertEqual(plan.next_zones(zone), sorted({walk[1] for walk in walks if len(walk) == 2}))
        self.assertEqual(plan, was)

    def test_drawn_maps(self):
        for plan in drawn_maps(300, 212, most_roads=8):
            self.check(plan)

    def test_roads_are_one_way(self):
        plan = Map({}, {"x": (), "y": (), "z": ()}, (("x", "y"), ("y", "z")))
        self.assertEqual(plan.reach("x"), {"x": ("x",), "y": ("x", "y"), "z": ("x", "y", "z")})
        self.assertEqual(plan.reach("z"), {"z": ("z",)})

    def test_a_large_map(self):
        names = ["z" + str(at) for at in range(400)]
        roads = list(zip(names, names[1:])) + list(zip(names[1:], names))
        plan = Map({}, {name: () for name in names}, roads)
        self.assertEqual(plan.reach("z0")["z399"], tuple(names))
        self.assertEqual(plan.reach("z399")["z0"], tuple(reversed(names)))
