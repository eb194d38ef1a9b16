"""[10], [11]: channels that lack, masts that fall."""

import unittest
from itertools import product

from mastcalls.capacity import lacking, spare, sure_calls, with_channels, without, worst_falls
from mastcalls.errors import BadName, BadScene
from mastcalls.scenes import Call, Scene
from tests.oracles import all_small_scenes, best_lot, can_seat, mixed_scenes, subsets


def heard_calls(scene):
    return [name for name in scene.calls if scene.calls[name].heard]


def lost_by(scene):
    return len(scene.calls) - len(best_lot(scene))


def scene_left(scene, masts):
    """The scene without some masts, made by hand."""
    channels = {mast: many for mast, many in scene.channels.items() if mast not in masts}
    calls = {name: Call(call.worth, sorted(set(call.heard) - set(masts))) for name, call in scene.calls.items()}
    return Scene(channels, calls)


class LackingTest(unittest.TestCase):

    def test_none_lacks(self):
        self.assertEqual(lacking(Scene({}, {})), {})
        self.assertEqual(lacking(Scene({"a": 1}, {"x": Call(1, ["a"]), "y": Call(1, [])})), {})

    def test_counts_from_one_on(self):
        scene = Scene({"a": 0, "b": 1}, {"x": Call(1, ["a"]), "y": Call(1, ["a"]), "z": Call(1, ["b"])})
        self.assertEqual(lacking(scene), {"a": 2})

    def test_any_number_may_lack(self):
        calls = {"c" + str(at): Call(1, ["a"]) for at in range(1002)}
        self.assertEqual(lacking(Scene({"a": 0}, calls)), {"a": 1002})

    def check(self, scene):
        was = Scene(scene.channels, scene.calls)
        more = lacking(scene)
        self.assertEqual(scene, was)
        self.assertEqual(lacking(scene), more)
        self.assertEqual(list(more), sorted(more))
        self.assertTrue(all(mast in scene.channels and more[mast] >= 1 for mast in more))
        heard = heard_calls(scene)
        self.assertTrue(can_seat(with_channels(scene, more), heard))
        fewer = sum(more.values()) - 1
        masts = list(scene.channels)
        for counts in product(range(max(fewer, 0) + 1), repeat=len(masts)):
            if sum(counts) == fewer:
                self.assertFalse(can_seat(with_channels(scene, dict(zip(masts, counts))), heard))

    def test_enough_and_nothing_less_in_sum(self):
        for scene in all_small_scenes((0,)):
            self.check(scene)
        for scene in mixed_scenes(400, 16):
            self.check(scene)


class OtherScenesTest(unittest.TestCase):

    def setUp(self):
        self.scene = Scene({"a": 1, "b": 999}, {"x": Call(3, ["a", "b"]), "y": Call(4, ["b"])})
        self.calls = dict(self.scene.calls)

    def test_with_channels(self):
        more = {"b": 1, "a": -1, "q": 5}
        late = with_channels(self.scene, more)
        self.assertEqual(late, Scene({"a": 0, "b": 1000}, self.calls))
        self.assertEqual(more, {"b": 1, "a": -1, "q": 5})
        self.assertEqual(self.scene, Scene({"a": 1, "b": 999}, self.calls))
        self.assertEqual(with_channels(self.scene, {}), self.scene)
        self.assertEqual(with_channels(self.scene, {"q": -5}), self.scene)

    def test_with_channels_that_may_not_be(self):
        for more in ({"a": -2}, {"b": 2}, {"a": 1000}, {"a": -2, "b": 2}):
            with self.assertRaises(BadScene) as caught:
                with_channels(self.scene, more)
            self.assertEqual(caught.exception.word, "channels")
        self.assertEqual(self.scene, Scene({"a": 1, "b": 999}, self.calls))

    def test_without(self):
        self.assertEqual(without(self.scene, ("a",)), Scene({"b": 999}, {"x": Call(3, ["b"]), "y": Call(4, ["b"])}))
        self.assertEqual(without(self.scene, ["b"]), Scene({"a": 1}, {"x": Call(3, ["a"]), "y": Call(4, [])}))
        self.assertEqual(without(self.scene, ("a", "b")), Scene({}, {"x": Call(3, []), "y": Call(4, [])}))
        self.assertEqual(without(self.scene, ()), self.scene)
        self.assertEqual(without(self.scene, ("q",)), self.scene)
        self.assertEqual(self.scene, Scene({"a": 1, "b": 999}, self.calls))


class FallsTest(unittest.TestCase):

    def test_the_first_lot_is_the_shortest_then_the_least(self):
        scene = Scene({"a": 1, "b": 1, "c": 1}, {"x": Call(1, ["b", "c"]), "y": Call(1, ["a", "b", "c"])})
        self.assertEqual(worst_falls(scene, 0), (0, ()))
        self.assertEqual(worst_falls(scene, 1), (0, ()))
        self.assertEqual(worst_falls(scene, 2), (1, ("a", "b")))
        self.assertEqual(worst_falls(scene, 3), (2, ("a", "b", "c")))
        self.assertEqual(worst_falls(Scene({}, {"x": Call(1, [])}), 0), (1, ()))

    def test_bad_most(self):
        scene = Scene({"a": 1, "b": 1}, {})
        for most in (-1, 3, True, False, None, "1", (1,), 1.0):
            with self.assertRaises(BadName) as caught:
                worst_falls(scene, most)
            self.assertIs(caught.exception.name, most)

    def test_sure_calls_takes_any_number(self):
        scene = Scene({"a": 1, "b": 1}, {"x": Call(1, ["a", "b"]), "y": Call(0, ["a", "b"])})
        self.assertEqual([sure_calls(scene, most) for most in range(5)], [("x", "y"), ("x",), (), (), ()])

    def test_by_all_lots_of_masts(self):
        for scene in mixed_scenes(200, 17):
            was = Scene(scene.channels, scene.calls)
            lots = subsets(scene.channels)
            lost = {lot: lost_by(scene_left(scene, lot)) for lot in lots}
            stay = {lot: best_lot(scene_left(scene, lot)) for lot in lots}
            for most in range(len(scene.channels) + 1):
                may_be = [lot for lot in lots if len(lot) <= most]
                worst = max(lost[lot] for lot in may_be)
                first = min((len(lot), lot) for lot in may_be if lost[lot] == worst)[1]
                self.assertEqual(worst_falls(scene, most), (worst, first))
                sure = [name for name in scene.calls if all(name in stay[lot] for lot in may_be)]
                self.assertEqual(sure_calls(scene, most), tuple(sorted(sure)))
            self.assertEqual(scene, was)


class SpareTest(unittest.TestCase):

    def test_some(self):
        scene = Scene({"a": 5, "b": 1}, {"x": Call(1, ["a"]), "y": Call(1, ["a", "b"]), "z": Call(1, [])})
        self.assertEqual((spare(scene, "a"), spare(scene, "b")), (4, 1))
        scene = with_channels(scene, {"a": -4})
        self.assertEqual((spare(scene, "a"), spare(scene, "b")), (0, 0))

    def test_bad_mast(self):
        scene = Scene({"a": 1}, {"x": Call(1, ["a"])})
        for mast in ("b", "x", "", None, 1, ["a"]):
            with self.assertRaises(BadName) as caught:
                spare(scene, mast)
            self.assertIs(caught.exception.name, mast)

    def test_one_channel_after_another(self):
        for scene in list(all_small_scenes((0,))) + mixed_scenes(300, 18, most_channels=4):
            for mast in scene.channels:
                many = 0
                while many < scene.channels[mast]:
                    if lost_by(with_channels(scene, {mast: -many - 1})) > lost_by(scene):
                        break
                    many += 1
                self.assertEqual(spare(scene, mast), many)
