"""[2] to [5]: names, scenes, their order, seatings."""

import unittest

from mastcalls.errors import BadScene
from mastcalls.scenes import Call, Scene, is_name, wrong_seating


def told_by(channels, calls):
    """The word of the error that a scene raises, None without one."""
    try:
        Scene(channels, calls)
    except BadScene as wrong:
        return wrong.word
    return None


class NamesTest(unittest.TestCase):

    def test_names(self):
        for thing in ("a", "z", "a0", "z9", "abcdefgh", "a1234567", "mast"):
            self.assertTrue(is_name(thing), thing)

    def test_no_names(self):
        wrong = ("", "abcdefghi", "A", "aB", "1a", "0", "a_", "a b", " a", "a ", "a\n", "\na", "a-b", "a.b",
                 "\u00e4", "a\u00e4", "a\u0661", "\u03b1", None, 1, True, b"a", ("a",), ["a"], {"a": 1}, 1.5)
        for thing in wrong:
            self.assertIs(is_name(thing), False, thing)


class SceneTest(unittest.TestCase):

    def test_what_is_kept(self):
        call = Call(3, ["b", "a"])
        self.assertEqual((call.worth, call.heard), (3, ("a", "b")))
        self.assertEqual(Call(0, ("c", "a", "b")).heard, ("a", "b", "c"))
        scene = Scene({"b": 0, "a": 1000}, {"y": Call(0, []), "x": Call(1000, ["b", "a"])})
        self.assertEqual(list(scene.channels.items()), [("a", 1000), ("b", 0)])
        self.assertEqual(list(scene.calls), ["x", "y"])
        self.assertEqual(scene.calls["x"], Call(1000, ("a", "b")))

    def test_empty(self):
        scene = Scene({}, {})
        self.assertEqual((scene.channels, scene.calls, scene.order(), scene.masts_of(())), ({}, {}, [], ()))

    def test_arguments_stay_as_they_are(self):
        heard = ["b", "a"]
        channels, calls = {"b": 1, "a": 2}, {"y": Call(1, heard), "x": Call(2, ())}
        scene = Scene(channels, calls)
        self.assertEqual((heard, list(channels), list(calls)), (["b", "a"], ["b", "a"], ["y", "x"]))
        scene.channels["a"] = 7
        self.assertEqual(channels["a"], 2)

    def test_a_mast_and_a_call_may_have_one_name(self):
        self.assertIsNone(told_by({"a": 1}, {"a": Call(1, ["a"])}))

    def test_wrong_masts(self):
        self.assertEqual(told_by({"A": 1}, {}), "mast")
        self.assertEqual(told_by({"": 1}, {}), "mast")
        self.assertEqual(told_by({1: 1}, {}), "mast")
        for many in (-1, 1001, True, False, "1", None, 1.0):
            self.assertEqual(told_by({"a": many}, {}), "channels")
        for many in (0, 1, 1000):
            self.assertIsNone(told_by({"a": many}, {}))

    def test_wrong_calls(self):
        self.assertEqual(told_by({}, {"X": Call(1, [])}), "call")
        self.assertEqual(told_by({}, {"abcdefghi": Call(1, [])}), "call")
        for worth in (-1, 1001, True, False, "1", None):
            self.assertEqual(told_by({}, {"x": Call(worth, [])}), "worth")
        for worth in (0, 1000):
            self.assertIsNone(told_by({}, {"x": Call(worth, [])}))
        for heard in (["b"], ["a", "b"], ["a", "a"], ["B"]):
            self.assertEqual(told_by({"a": 1}, {"x": Call(1, heard)}), "heard")

    def test_the_first_wrong_thing_counts(self):
        self.assertEqual(told_by({"A": -1}, {}), "mast")
        self.assertEqual(told_by({"b": -1, "A": 1}, {}), "channels")
        self.assertEqual(told_by({"A": 1, "b": -1}, {}), "mast")
        self.assertEqual(told_by({"z": 1, "b": -1, "A": 1}, {}), "channels")
        self.assertEqual(told_by({"a": -1}, {"X": Call(-1, ["b"])}), "channels")
        self.assertEqual(told_by({"a": 1}, {"X": Call(-1, ["b"])}), "call")
        self.assertEqual(told_by({"a": 1}, {"x": Call(-1, ["b"])}), "worth")
        self.assertEqual(told_by({"a": 1}, {"y": Call(1, ["b"]), "x": Call(-1, [])}), "heard")
        self.assertEqual(told_by({"a": 1}, {"x": Call(-1, []), "Y": Call(1, [])}), "worth")
        self.assertEqual(told_by({"a": 1}, {"Y": Call(1, []), "x": Call(-1, [])}), "call")

    def test_equal(self):
        self.assertEqual(Call(1, ["a", "b"]), Call(1, ("b", "a")))
        self.assertNotEqual(Call(1, ["a"]), Call(2, ["a"]))
        self.assertNotEqual(Call(1, ["a"]), Call(1, ["a", "b"]))
        self.assertNotEqual(Call(1, ["a"]), (1, ("a",)))
        one = Scene({"a": 1, "b": 2}, {"x": Call(1, ["a"]), "y": Call(2, ["b"])})
        self.assertEqual(one, Scene({"b": 2, "a": 1}, {"y": Call(2, ["b"]), "x": Call(1, ["a"])}))
        self.assertNotEqual(one, Scene({"a": 1, "b": 1}, {"x": Call(1, ["a"]), "y": Call(2, ["b"])}))
        self.assertNotEqual(one, Scene({"a": 1, "b": 2}, {"x": Call(1, ["b"]), "y": Call(2, ["b"])}))
        self.assertNotEqual(one, Scene({"a": 1, "b": 2}, {"x": Call(1, ["a"])}))
        self.assertNotEqual(one, "scene")
        self.assertFalse(one == None)  # noqa: E711


class OrderTest(unittest.TestCase):

    def setUp(self):
        calls = {"d": Call(5, []), "c": Call(7, ["a", "b"]), "b": Call(5, ["b"]), "a": Call(0, ["c"])}
        self.scene = Scene({"a": 1, "b": 2, "c": 4}, calls)

    def test_the_worthier_first_then_by_name(self):
        self.assertEqual(self.scene.order(), ["c", "b", "d", "a"])
        self.assertIsInstance(self.scene.order(), list)

    def test_rank_is_a_tuple_less_for_who_is_earlier(self):
        ranks = [self.scene.rank(name) for name in self.scene.order()]
        self.assertTrue(all(isinstance(rank, tuple) for rank in ranks))
        self.assertTrue(all(ranks[at] < ranks[at + 1] for at in range(len(ranks) - 1)))

    def test_room(self):
        self.assertEqual(self.scene.room(()), 0)
        self.assertEqual(self.scene.room(("c", "a")), 5)
        self.assertEqual(self.scene.room(["b"]), 2)
        self.assertEqual(self.scene.room(("b", "b", "a")), 5)

    def test_masts_of(self):
        self.assertEqual(self.scene.masts_of(("a", "c")), ("a", "b", "c"))
        self.assertEqual(self.scene.masts_of(("c", "b")), ("a", "b"))
        self.assertEqual(self.scene.masts_of(("d",)), ())
        self.assertEqual(self.scene.masts_of(["b", "b"]), ("b",))


class WrongSeatingTest(unittest.TestCase):

    def setUp(self):
        calls = {"x": Call(1, ["a", "b"]), "y": Call(1, ["b"]), "z": Call(0, [])}
        self.scene = Scene({"a": 0, "b": 1}, calls)

    def word(self, *pairs):
        return wrong_seating(self.scene, dict(pairs))

    def test_right_ones(self):
        self.assertIsNone(self.word())
        self.assertIsNone(self.word(("x", "b")))
        self.assertIsNone(self.word(("y", "b")))

    def test_wrong_ones(self):
        self.assertEqual(self.word(("w", "b")), "call")
        self.assertEqual(self.word(("y", "a")), "heard")
        self.assertEqual(self.word(("z", "a")), "heard")
        self.assertEqual(self.word(("x", "c")), "heard")
        self.assertEqual(self.word(("x", None)), "heard")
        self.assertEqual(self.word(("x", "a")), "full")
        self.assertEqual(self.word(("x", "b"), ("y", "b")), "full")

    def test_the_first_wrong_call_in_turn_then_full(self):
        self.assertEqual(self.word(("y", "a"), ("w", "b")), "heard")
        self.assertEqual(self.word(("w", "b"), ("y", "a")), "call")
        self.assertEqual(self.word(("x", "a"), ("y", "a")), "heard")
        self.assertEqual(self.word(("x", "b"), ("y", "b"), ("w", "a")), "call")
