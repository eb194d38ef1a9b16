"""[9]: fewest moves, prices, bounds."""

import unittest
from itertools import product
from random import Random

from mastcalls.keeping import Kept
from mastcalls.moving import bound_by, moves_of, prices_of, reseated
from mastcalls.scenes import Call, Scene, wrong_seating
from tests.oracles import all_small_scenes, count_moves, fewest_moves, mixed_scenes, right_seatings


class MovesTest(unittest.TestCase):

    def test_the_example(self):
        scene = Scene({"a": 1, "b": 1}, {"ann": Call(1, ["a", "b"]), "ben": Call(2, ["a"])})
        before = {"ann": "a", "ben": "b"}
        late = reseated(scene, {"ann": "b", "ben": "a"}, before)
        self.assertEqual(late, {"ann": "b", "ben": "a"})
        self.assertEqual(moves_of(late, before), ("ann", "ben"))
        self.assertEqual(bound_by(scene, ("ann", "ben"), before, {"a": 1, "b": 0}), 2)

    def test_moves_of(self):
        seating = {"z": "a", "x": "a", "y": "b"}
        self.assertEqual(moves_of(seating, {}), ("x", "y", "z"))
        self.assertEqual(moves_of(seating, {"x": "a", "y": "a", "w": "b"}), ("y", "z"))
        self.assertEqual(moves_of(seating, dict(seating)), ())
        self.assertEqual(moves_of({}, {"x": "a"}), ())

    def test_names_that_are_none_there_count_for_nothing(self):
        scene = Scene({"a": 1, "b": 1}, {"x": Call(1, ["a", "b"]), "y": Call(1, ["b"])})
        seating = {"x": "a", "y": "b"}
        for before in ({"w": "a"}, {"x": "q"}, {"y": "a"}, {"x": "b", "w": "q"}):
            self.assertEqual(reseated(scene, seating, before), seating)
        self.assertEqual(moves_of(seating, {"x": "q", "w": "a"}), ("x", "y"))

    def test_who_was_on_a_mast_that_is_too_full_now(self):
        scene = Scene({"a": 2, "b": 3}, {name: Call(1, ["a", "b"]) for name in ("v", "w", "x", "y", "z")})
        before = {name: "a" for name in scene.calls}
        late = reseated(scene, Kept(scene).seating, before)
        self.assertIsNone(wrong_seating(scene, late))
        self.assertEqual((list(late), len(moves_of(late, before))), (["v", "w", "x", "y", "z"], 3))


class FewestTest(unittest.TestCase):

    def check(self, scene, seating, before):
        was = (dict(seating), dict(before), Scene(scene.channels, scene.calls))
        late = reseated(scene, seating, before)
        self.assertIsNone(wrong_seating(scene, late))
        self.assertEqual(list(late), sorted(seating))
        fewest = fewest_moves(scene, tuple(seating), before)
        self.assertEqual(count_moves(late, before), fewest)
        self.assertEqual(len(moves_of(late, before)), fewest)
        prices = prices_of(scene, late, before)
        self.assertEqual(list(prices), list(scene.channels))
        self.assertTrue(all(isinstance(price, int) and price >= 0 for price in prices.values()))
        self.assertEqual(bound_by(scene, tuple(seating), before, prices), fewest)
        self.assertEqual((seating, before, scene), was)
        again = reseated(scene, dict(reversed(seating.items())), dict(reversed(before.items())))
        self.assertEqual(again, late)
        return fewest

    def test_all_small_scenes_from_everywhere(self):
        for scene in all_small_scenes(worths=(0,)):
            seating = Kept(scene).seating
            for masts in product(("a", "b", None), repeat=len(seating)):
                before = {name: mast for name, mast in zip(seating, masts) if mast is not None}
                self.check(scene, seating, before)

    def test_larger_scenes(self):
        random = Random(91)
        seen = set()
        for scene in mixed_scenes(1500, 12):
            seating = Kept(scene).seating
            before = {}
            for name in list(scene.calls) + ["gone"]:
                if random.random() < 0.9:
                    before[name] = random.choice(["a", "b", "c", "d", "e"])
            seen.add(self.check(scene, seating, before))
        self.assertTrue(seen >= {0, 1, 2, 3, 4})

    def test_from_a_right_seating(self):
        random = Random(92)
        for scene in mixed_scenes(300, 13, most_channels=3):
            seating = Kept(scene).seating
            before = random.choice(list(right_seatings(scene, list(seating))))
            self.assertEqual(reseated(scene, seating, before), before)
            self.check(scene, seating, before)
            if before:
                del before[random.choice(list(before))]
                self.check(scene, seating, before)

    def test_every_seating_with_fewest_moves_has_prices(self):
        random = Random(93)
        for scene in mixed_scenes(150, 14, most_calls=5):
            lot = tuple(Kept(scene).seating)
            before = {name: random.choice(["a", "b", "c", "d"]) for name in lot}
            fewest = fewest_moves(scene, lot, before)
            for seating in right_seatings(scene, lot):
                if count_moves(seating, before) == fewest:
                    prices = prices_of(scene, seating, before)
                    self.assertTrue(all(price >= 0 for price in prices.values()))
                    self.assertEqual(bound_by(scene, lot, before, prices), fewest)

    def test_a_larger_scene(self):
        random = Random(94)
        masts = ["m" + str(at) for at in range(12)]
        calls = {"c" + str(at): Call(0, random.sample(masts, 3)) for at in range(60)}
        scene = Scene({mast: 5 for mast in masts}, calls)
        seating = Kept(scene).seating
        before = {name: random.choice(calls[name].heard) for name in calls}
        late = reseated(scene, seating, before)
        self.assertIsNone(wrong_seating(scene, late))
        prices = prices_of(scene, late, before)
        self.assertEqual(bound_by(scene, tuple(late), before, prices), len(moves_of(late, before)))


class BoundTest(unittest.TestCase):

    def test_the_sum(self):
        scene = Scene({"a": 1, "b": 2}, {"x": Call(1, ["a", "b"]), "y": Call(1, ["b"])})
        prices = {"a": 3, "b": 5}
        self.assertEqual(bound_by(scene, (), {}, prices), -13)
        self.assertEqual(bound_by(scene, ("x",), {}, prices), 3 + 1 - 13)
        self.assertEqual(bound_by(scene, ("x",), {"x": "a"}, prices), 3 - 13)
        self.assertEqual(bound_by(scene, ("x", "y"), {"x": "b", "y": "b"}, prices), 4 + 5 - 13)
        self.assertEqual(bound_by(scene, ("x", "y"), {"x": "q", "y": "a"}, {"a": 0, "b": 0}), 2)

    def test_no_right_seating_moves_fewer(self):
        random = Random(95)
        for scene in mixed_scenes(150, 15, most_calls=5):
            lot = tuple(Kept(scene).lot)
            before = {name: random.choice(["a", "b", "c", "d"]) for name in lot}
            fewest = fewest_moves(scene, lot, before)
            for _ in range(20):
                prices = {mast: random.randint(0, 3) for mast in scene.channels}
                self.assertLessEqual(bound_by(scene, lot, before, prices), fewest)
