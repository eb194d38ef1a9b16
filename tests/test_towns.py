"""[1], [25]: a town in which whoever is taken is never given up."""

import unittest
from random import Random

from mastcalls.errors import BadName
from mastcalls.maps import Map
from mastcalls.safety import Danger
from mastcalls.scenes import Call, Scene, wrong_seating
from mastcalls.towns import Town
from tests.drawn import MASTS, ZONES, copy_of, drawn_map, first_falls, is_shown
from tests.oracles import count_moves, fewest_moves

PLAN = Map({"a": 1, "b": 2}, {"dale": ("b",), "hill": ("a",)}, (("dale", "hill"),))


def picture(town):
    """All that can be seen of a town."""
    return (town.most, town.down, list(town.places.items()), list(town.seating.items()), town.refused, town.moved)


def scene_by_hand(town):
    """The scene of the masts that are up and the calls that one of them hears."""
    up = {mast: many for mast, many in town.plan.channels.items() if mast not in town.down}
    calls = {}
    for name, zone in town.places.items():
        heard = [mast for mast in town.plan.heard[zone] if mast in up]
        if heard:
            calls[name] = Call(0, heard)
    return Scene(up, calls)


class TownTest(unittest.TestCase):

    def test_a_new_town(self):
        town = Town(PLAN, 2)
        self.assertEqual((town.plan, town.most, town.down), (PLAN, 2, ()))
        self.assertEqual((town.places, town.seating, town.refused, town.moved), ({}, {}, 0, 0))
        self.assertTrue(town.is_safe())
        self.assertEqual(town.scene(), Scene({"a": 1, "b": 2}, {}))

    def test_the_first_example(self):
        town = Town(PLAN, 0)
        self.assertIsNone(town.begin("one", "dale"))
        danger = town.begin("two", "dale")
        self.assertEqual(danger, Danger((), ("a",), {"one": ("dale", "hill"), "two": ("dale", "hill")}))
        self.assertEqual((town.places, town.seating, town.refused, town.moved),
                         ({"one": "dale"}, {"one": "b"}, 1, 0))
        self.assertEqual(town.go("one", "hill"), ("one",))
        self.assertEqual((town.seating, town.moved), ({"one": "a"}, 1))

    def test_who_is_heard_by_nobody_rests(self):
        town = Town(Map({"a": 1}, {"x": (), "y": ("a",)}, (("x", "y"), ("y", "x"))), 0)
        self.assertIsNone(town.begin("one", "x"))
        self.assertEqual((town.seating, town.scene()), ({}, Scene({"a": 1}, {})))
        self.assertEqual(town.begin("two", "x").ways, {"one": ("x", "y"), "two": ("x", "y")})
        self.assertEqual((town.go("one", "y"), town.seating, town.moved), (("one",), {"one": "a"}, 0))
        self.assertEqual((town.go("one", "x"), town.seating, town.moved), ((), {}, 0))
        self.assertEqual((town.go("one", "y"), town.moved), (("one",), 0))

    def test_masts_fall_and_rise(self):
        town = Town(Map({"a": 2, "b": 2, "c": 1}, {"z": ("a", "b")}, ()), 2)
        self.assertIsNone(town.begin("one", "z"))
        self.assertIsNone(town.begin("two", "z"))
        self.assertEqual(town.begin("six", "z").falls, ("a",))
        self.assertEqual(town.seating, {"one": "a", "two": "a"})
        self.assertEqual(town.fall("c"), ())
        self.assertEqual(town.down, ("c",))
        self.assertEqual(town.fall("a"), ("one", "two"))
        self.assertEqual((town.down, town.seating, town.moved), (("a", "c"), {"one": "b", "two": "b"}, 2))
        with self.assertRaises(BadName):
            town.fall("b")
        self.assertEqual(town.rise("c"), ())
        self.assertEqual(town.fall("b"), ())
        self.assertEqual((town.down, town.seating, town.moved), (("a", "b"), {}, 2))
        self.assertEqual((town.rise("a"), town.seating, town.moved), (("one", "two"), {"one": "a", "two": "a"}, 2))

    def test_others_make_room_at_begin(self):
        town = Town(Map({"a": 1, "b": 1}, {"x": ("a", "b"), "y": ("a",)}, ()), 0)
        self.assertIsNone(town.begin("one", "x"))
        self.assertEqual(town.seating, {"one": "a"})
        self.assertIsNone(town.begin("two", "y"))
        self.assertEqual((town.seating, town.moved), ({"one": "b", "two": "a"}, 1))

    def test_a_call_that_ended_may_begin_again(self):
        town = Town(PLAN, 0)
        self.assertIsNone(town.begin("one", "hill"))
        self.assertEqual(town.end("one"), ())
        self.assertEqual((town.places, town.seating), ({}, {}))
        self.assertIsNone(town.begin("one", "dale"))
        self.assertEqual(town.seating, {"one": "b"})

    def test_bad_names_change_nothing(self):
        town = Town(PLAN, 1)
        town.begin("one", "dale")
        town.fall("a")
        town.begin("two", "dale")
        for word, parts, name in (("begin", ("One", "dale"), "One"), ("begin", ("one", "dale"), "one"),
                                  ("begin", ("one", "q"), "one"), ("begin", ("", "q"), ""),
                                  ("begin", (None, "q"), None), ("begin", (1, "dale"), 1),
                                  ("begin", (["x"], "dale"), ["x"]), ("begin", ("six", "q"), "q"),
                                  ("begin", ("six", "a"), "a"), ("begin", ("six", None), None),
                                  ("begin", ("six", ["dale"]), ["dale"]), ("go", ("six", "hill"), "six"),
                                  ("go", ("six", "q"), "six"), ("go", (["one"], "q"), ["one"]),
                                  ("go", ("one", "q"), "q"), ("go", ("one", "dale"), "dale"),
                                  ("go", ("one", None), None), ("go", ("one", ["hill"]), ["hill"]),
                                  ("end", ("six",), "six"), ("end", (None,), None), ("end", ("dale",), "dale"),
                                  ("fall", ("q",), "q"), ("fall", ("dale",), "dale"), ("fall", (None,), None),
                                  ("fall", ("a",), "a"), ("fall", ("b",), "b"), ("rise", ("b",), "b"),
                                  ("rise", ("q",), "q"), ("rise", (None,), None), ("rise", (["a"],), ["a"])):
            was = picture(town)
            with self.assertRaises(BadName, msg=(word, parts)) as caught:
                getattr(town, word)(*parts)
            self.assertEqual(caught.exception.name, name)
            self.assertEqual(picture(town), was)
        with self.assertRaises(BadName):
            Town(PLAN, 0).fall("a")


class DrawnTownTest(unittest.TestCase):
    """Deeds of all kinds; each one is held against what must come of it."""

    def setUp(self):
        self.kinds = {}

    def step(self, random, town):
        """Some deed, often one that can't be done."""
        names = ["c" + str(at) for at in range(6)] + list(town.places)
        zones = list(town.plan.heard) * 3 + ["q"]
        masts = MASTS + list(town.plan.channels) * 2
        word = random.choice(["begin"] * 4 + ["go"] * 5 + ["end", "fall", "fall", "rise", "rise"])
        parts = (random.choice(masts),) if word in ("fall", "rise") else (random.choice(names),)
        if word in ("begin", "go"):
            parts += (random.choice(zones),)
        return word, parts

    def wrong_name(self, town, word, parts):
        """What BadName must tell, as a tuple of one; () if the deed can be done."""
        if word == "begin":
            wrong = [parts[0]] * (parts[0] in town.places) + [parts[1]] * (parts[1] not in town.plan.heard)
        elif word in ("go", "end"):
            wrong = [parts[0]] * (parts[0] not in town.places)
            if word == "go" and not wrong:
                wrong = [parts[1]] * ((town.places[parts[0]], parts[1]) not in town.plan.roads)
        elif word == "fall":
            is_wrong = parts[0] not in town.plan.channels or parts[0] in town.down or len(town.down) == town.most
            wrong = [parts[0]] * is_wrong
        else:
            wrong = [parts[0]] * (parts[0] not in town.down)
        return tuple(wrong[:1])

    def places_behind(self, town, word, parts):
        """Where the calls are behind a deed."""
        places = dict(town.places)
        if word in ("begin", "go"):
            places[parts[0]] = parts[1]
        elif word == "end":
            del places[parts[0]]
        return dict(sorted(places.items()))

    def down_behind(self, town, word, parts):
        """Which masts are down behind a deed."""
        if word == "fall":
            return tuple(sorted(town.down + parts))
        return tuple(mast for mast in town.down if word != "rise" or mast != parts[0])

    def check(self, town, word, parts):
        was = picture(town)
        before, refused, moved = dict(town.seating), town.refused, town.moved
        wrong = self.wrong_name(town, word, parts)
        if wrong:
            with self.assertRaises(BadName) as caught:
                getattr(town, word)(*parts)
            self.assertEqual((caught.exception.name,), wrong)
            self.assertEqual(picture(town), was)
            return "barred"
        places, down = self.places_behind(town, word, parts), self.down_behind(town, word, parts)
        told = getattr(town, word)(*parts)
        if word == "begin":
            falls = first_falls(town.plan, places, town.most)
            if falls is not None:
                self.assertIsInstance(told, Danger)
                self.assertEqual(told.falls, falls)
                self.assertTrue(is_shown(town.plan, places, town.most, told))
                self.assertEqual(picture(town), was[:4] + (refused + 1, moved))
                return "refused"
            self.assertIsNone(told)
        self.assertEqual((list(town.places.items()), town.down), (list(places.items()), down))
        self.assertEqual(town.refused, refused)
        self.check_seats(town, before, told if word != "begin" else None, moved)
        return word

    def check_seats(self, town, before, told, moved):
        scene = scene_by_hand(town)
        self.assertEqual(town.scene(), scene)
        self.assertIsNone(wrong_seating(scene, town.seating))
        self.assertEqual(list(town.seating), list(scene.calls))
        self.assertEqual(count_moves(town.seating, before), fewest_moves(scene, tuple(scene.calls), before))
        moves = tuple(name for name in scene.calls if before.get(name) != town.seating[name])
        if told is not None:
            self.assertEqual(told, moves)
        self.assertEqual(town.moved, moved + sum(1 for name in moves if name in before))
        self.assertTrue(town.is_safe())
        self.assertIsNone(first_falls(town.plan, town.places, town.most))

    def test_drawn_towns(self):
        random = Random(251)
        for _ in range(250):
            plan = drawn_map(random, most_masts=4, most_channels=3, most_roads=8)
            was = copy_of(plan)
            town = Town(plan, random.randint(0, 2))
            twin = Town(copy_of(plan), town.most)
            for _ in range(25):
                word, parts = self.step(random, town)
                kind = self.check(town, word, parts)
                self.kinds[kind] = self.kinds.get(kind, 0) + 1
                if kind != "barred":
                    getattr(twin, word)(*parts)
                self.assertEqual(picture(twin), picture(town))
            self.assertEqual(plan, was)
        for kind in ("barred", "refused", "begin", "go", "end", "fall", "rise"):
            self.assertGreater(self.kinds[kind], 50, self.kinds)

    def test_is_safe_looks_at_the_calls(self):
        town = Town(PLAN, 0)
        town.begin("one", "dale")
        town.places = {"one": "dale", "two": "hill"}
        self.assertFalse(town.is_safe())

    def test_all_masts_of_drawn_towns_can_fall_in_any_turn(self):
        random = Random(252)
        for _ in range(60):
            town = Town(drawn_map(random, most_masts=4, most_channels=3), 4)
            zones = list(town.plan.heard) or ZONES
            for at in range(8):
                if town.plan.heard:
                    town.begin("c" + str(at), random.choice(zones))
            masts = list(town.plan.channels)
            random.shuffle(masts)
            for mast in masts:
                town.fall(mast)
                scene = scene_by_hand(town)
                self.assertEqual(list(town.seating), list(scene.calls))
                self.assertIsNone(wrong_seating(scene, town.seating))
            self.assertEqual((town.seating, town.down), ({}, tuple(sorted(masts))))
