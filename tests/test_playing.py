"""[23]: dangers, played step by step."""

import unittest
from random import Random

from mastcalls.maps import Map
from mastcalls.playing import first_lack, play, standing_scene, steps_of, without_seat
from mastcalls.safety import Danger, danger_for
from mastcalls.scenes import Call, Scene
from mastcalls.towns import Town
from tests.drawn import can_all_be_seated, copy_of, drawn_map, drawn_places, spoilt

PLAN = Map({"a": 1, "b": 2}, {"dale": ("b", "a"), "hill": ("a",), "moor": ()}, (("dale", "hill"), ("hill", "moor")))


def lacking_by_hand(plan, places, down):
    """Who is without a seat: calls by names, each one being kept if all kept ones can be seated with it."""
    rooms = tuple(plan.channels.items())
    kept, lacking = [], []
    for name in sorted(places):
        heard = tuple(mast for mast in plan.heard[places[name]] if mast not in down)
        if heard and can_all_be_seated(rooms, tuple(sorted(kept + [heard]))):
            kept.append(heard)
        elif heard:
            lacking.append(name)
    return tuple(lacking)


class ExampleTest(unittest.TestCase):

    def test_standing_scene(self):
        places = {"two": "hill", "one": "dale", "six": "moor"}
        self.assertEqual(standing_scene(PLAN, places, ()),
                         Scene({"a": 1, "b": 2}, {"one": Call(0, ["a", "b"]), "two": Call(0, ["a"])}))
        self.assertEqual(standing_scene(PLAN, places, ("a",)), Scene({"b": 2}, {"one": Call(0, ["b"])}))
        self.assertEqual(standing_scene(PLAN, places, ("a", "b")), Scene({}, {}))
        self.assertEqual(places, {"two": "hill", "one": "dale", "six": "moor"})

    def test_without_seat(self):
        places = {"two": "hill", "one": "hill", "six": "moor", "ten": "dale", "ann": "hill"}
        self.assertEqual(without_seat(PLAN, places, ()), ("one", "two"))
        self.assertEqual(without_seat(PLAN, places, ("b",)), ("one", "ten", "two"))
        self.assertEqual(without_seat(PLAN, places, ("a",)), ())
        self.assertEqual(without_seat(PLAN, {}, ()), ())

    def test_steps_play_and_first_lack(self):
        places = {"two": "dale", "one": "dale", "six": "moor"}
        danger = Danger((), ("a",), {"two": ("dale", "hill"), "one": ("dale", "hill")})
        told = steps_of(places, danger)
        first = {"one": "dale", "six": "moor", "two": "dale"}
        self.assertEqual(told, [first, dict(first, one="hill"), dict(first, one="hill", two="hill")])
        self.assertEqual([list(standing) for standing in told], [["one", "six", "two"]] * 3)
        self.assertEqual(play(PLAN, places, danger), [(told[0], ()), (told[1], ()), (told[2], ("two",))])
        self.assertEqual(first_lack(PLAN, places, danger), (2, ("two",)))
        self.assertEqual(first_lack(PLAN, places, Danger(("b",), ("a",), danger.ways)), (0, ("two",)))
        self.assertEqual(places, {"two": "dale", "one": "dale", "six": "moor"})

    def test_nobody_lacks(self):
        places = {"one": "dale", "two": "dale"}
        for danger in (Danger((), ("a",), {}), Danger((), ("a",), {"one": ("dale", "hill", "moor")}),
                       Danger((), ("a",), {"one": ("dale",), "two": ("dale", "hill")}), Danger(("a", "b"), (), {})):
            self.assertIsNone(first_lack(PLAN, places, danger))
        self.assertEqual(steps_of(places, Danger((), ("a",), {"one": ("dale",)})), [places])
        self.assertEqual((steps_of({}, Danger((), (), {})), play(PLAN, {}, Danger((), (), {}))), ([{}], [({}, ())]))

    def test_a_way_may_lead_back(self):
        plan = Map({"a": 0}, {"x": (), "y": ("a",)}, (("x", "y"), ("y", "x")))
        danger = Danger((), ("a",), {"one": ("x", "y", "x")})
        self.assertEqual(play(plan, {"one": "x"}, danger),
                         [({"one": "x"}, ()), ({"one": "y"}, ("one",)), ({"one": "x"}, ())])
        self.assertEqual(first_lack(plan, {"one": "x"}, danger), (1, ("one",)))

    def test_standings_are_new_and_apart(self):
        places = {"one": "dale", "two": "dale"}
        danger = Danger((), ("a",), {"one": ("dale", "hill"), "two": ("dale", "hill")})
        told = steps_of(places, danger)
        told[0]["one"] = "moor"
        self.assertEqual((places["one"], told[1]["one"], told[2]["one"]), ("dale", "hill", "hill"))
        self.assertEqual(steps_of(places, danger)[0], places)


class DrawnPlayTest(unittest.TestCase):

    def check(self, plan, places, danger):
        """Holds the play of a danger against its ways."""
        told = play(plan, places, danger)
        standings = [standing for standing, _ in told]
        self.assertEqual(steps_of(places, danger), standings)
        self.assertEqual(standings[0], places)
        gone = []
        for before, standing in zip(standings, standings[1:]):
            moved = [name for name in places if before[name] != standing[name]]
            stayed = [name for name in places if before[name] == standing[name]]
            # A step along a road that leads back to its own zone is none that can be seen.
            self.assertLessEqual(len(moved), 1)
            self.assertEqual(len(moved) + len(stayed), len(places))
            for name in moved:
                self.assertIn((before[name], standing[name]), plan.roads)
            gone += moved
        self.assertEqual(gone, sorted(gone))
        self.assertEqual(len(standings), 1 + sum(len(way) - 1 for way in danger.ways.values()))
        for name in places:
            trail = [standing[name] for standing in standings]
            way = danger.ways.get(name, (places[name],))
            self.assertEqual([zone for at, zone in enumerate(trail) if at == 0 or zone != trail[at - 1]],
                             [zone for at, zone in enumerate(way) if at == 0 or zone != way[at - 1]])
        lacks = [lacking_by_hand(plan, standing, danger.falls) for standing in standings]
        self.assertEqual([lacking for _, lacking in told], lacks)
        for standing in standings:
            self.assertEqual(list(standing), sorted(standing))
        first = [(number, lacking) for number, lacking in enumerate(lacks) if lacking]
        self.assertEqual(first_lack(plan, places, danger), first[0] if first else None)
        return bool(first)

    def test_dangers_that_show_have_a_lack(self):
        random = Random(231)
        found, lacks = 0, {True: 0, False: 0}
        for _ in range(1000):
            plan = drawn_map(random, most_masts=4, most_roads=8)
            places = drawn_places(random, plan, 5)
            plan_was, places_was = copy_of(plan), dict(places)
            danger = danger_for(plan, places, random.randint(0, 2))
            if danger is None:
                continue
            found += 1
            self.assertTrue(self.check(plan, places, danger))
            for _ in range(3):
                other = spoilt(random, plan, danger)
                ways = {name: way for name, way in other.ways.items()
                        if name in places and way[:1] == (places[name],)
                        and all(step in plan.roads for step in zip(way, way[1:]))}
                lacks[self.check(plan, places, Danger(other.falls, other.masts, ways))] += 1
            self.assertEqual((plan, places), (plan_was, places_was))
        self.assertGreater(found, 150)
        self.assertGreater(min(lacks.values()), 50)

    def test_scenes_are_those_of_towns(self):
        random = Random(232)
        for _ in range(200):
            plan = drawn_map(random, most_masts=4, most_channels=3)
            town = Town(plan, 2)
            for name, zone in drawn_places(random, plan).items():
                town.begin(name, zone)
            for mast in random.sample(list(plan.channels), min(2, len(plan.channels))):
                town.fall(mast)
            self.assertEqual(standing_scene(plan, town.places, town.down), town.scene())
            self.assertEqual(without_seat(plan, town.places, town.down), ())
