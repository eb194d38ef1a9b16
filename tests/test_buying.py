"""[27]: channels to buy."""

import unittest
from itertools import product
from random import Random

from mastcalls.buying import cheapest, saved
from mastcalls.capacity import with_channels
from mastcalls.errors import BadName
from mastcalls.scenes import Call, Scene
from tests.oracles import all_small_scenes, can_seat, mixed_scenes, seatable_lots


def heard_calls(scene):
    return [name for name in scene.calls if scene.calls[name].heard]


def least_cost(scene, prices):
    """The least cost, by going through all lots of channels."""
    masts = list(scene.channels)
    most = len(heard_calls(scene))
    costs = []
    for counts in product(range(most + 1), repeat=len(masts)):
        cost = sum(many * prices[mast] for mast, many in zip(masts, counts))
        if sum(counts) <= most and (not costs or cost < min(costs)):
            if can_seat(with_channels(scene, dict(zip(masts, counts))), heard_calls(scene)):
                costs.append(cost)
    return min(costs)


class BuyingTest(unittest.TestCase):

    def test_some(self):
        scene = Scene({"a": 1, "b": 1}, {"x": Call(0, ["a"]), "y": Call(9, ["a", "b"]), "z": Call(1, ["b"]),
                                         "w": Call(1, [])})
        self.assertEqual((cheapest(scene, {"a": 3, "b": 5}), saved(scene, {"a": 3, "b": 5})), ((3, {"a": 1}), 8))
        self.assertEqual((cheapest(scene, {"a": 7, "b": 5}), saved(scene, {"a": 7, "b": 5})), ((5, {"b": 1}), 12))
        self.assertEqual(cheapest(scene, {"a": 1000, "b": 0})[0], 0)

    def test_nothing_to_buy(self):
        for scene, prices in ((Scene({}, {}), {}), (Scene({}, {"x": Call(1, [])}), {}),
                              (Scene({"a": 1}, {"x": Call(1, ["a"]), "y": Call(1, [])}), {"a": 4})):
            self.assertEqual(cheapest(scene, prices), (0, {}))
        self.assertEqual(saved(Scene({"a": 1}, {"x": Call(1, ["a"])}), {"a": 4}), 4)
        self.assertEqual(saved(Scene({"a": 1}, {}), {"a": 4}), 0)

    def test_channels_are_bought_beside_the_scenes(self):
        calls = {"c" + str(at): Call(1, ["a"]) for at in range(1005)}
        self.assertEqual(cheapest(Scene({"a": 1000}, calls), {"a": 1000}), (5000, {"a": 5}))
        self.assertEqual(saved(Scene({"a": 1000}, calls), {"a": 1000}), 1000000)

    def test_bad_prices(self):
        scene = Scene({"a": 1, "b": 1, "c": 1}, {"x": Call(1, ["a"])})
        for prices, mast in (({}, "a"), ({"a": 1}, "b"), ({"b": 1, "c": 1}, "a"), ({"c": 1001, "b": -1, "a": 0}, "b"),
                             ({"a": 1, "b": 1, "c": 1001}, "c"), ({"a": True, "b": 1, "c": 1}, "a"),
                             ({"a": 1, "b": "1", "c": 1}, "b"), ({"a": 1, "b": None, "c": None}, "b"),
                             ({"a": 1, "b": 1, "c": 1.0}, "c")):
            for function in (cheapest, saved):
                with self.assertRaises(BadName, msg=prices) as caught:
                    function(scene, prices)
                self.assertEqual(caught.exception.name, mast)
        self.assertEqual(cheapest(scene, {"c": 0, "b": 1000, "a": 0, "d": -1, "E": None}), (0, {}))

    def check(self, scene, prices):
        was = (Scene(scene.channels, scene.calls), dict(prices))
        cost, bought = cheapest(scene, prices)
        self.assertEqual(cheapest(scene, prices), (cost, bought))
        self.assertEqual(list(bought), sorted(bought))
        self.assertTrue(all(mast in scene.channels and bought[mast] >= 1 for mast in bought))
        self.assertEqual(cost, sum(many * prices[mast] for mast, many in bought.items()))
        self.assertTrue(can_seat(with_channels(scene, bought), heard_calls(scene)))
        self.assertEqual(cost, least_cost(scene, prices))
        least = {name: min(prices[mast] for mast in scene.calls[name].heard) for name in heard_calls(scene)}
        self.assertEqual(saved(scene, prices), sum(least.values()) - cost)
        self.assertEqual(saved(scene, prices), max(sum(least[name] for name in lot) for lot in seatable_lots(scene)))
        self.assertEqual((scene, prices), was)

    def test_all_lots_of_channels_on_small_scenes(self):
        for scene in all_small_scenes((0,)):
            for prices in ((1, 2), (0, 5), (3, 3)):
                self.check(scene, dict(zip("ab", prices)))

    def test_all_lots_of_channels_on_drawn_scenes(self):
        random = Random(271)
        for scene in mixed_scenes(150, 272, most_masts=3, most_calls=5):
            prices = {mast: random.choice([0, 1, 2, 3, 5, 1000]) for mast in "dcba"}
            self.check(scene, prices)
