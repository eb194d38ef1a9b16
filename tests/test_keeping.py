"""[6] to [8]: seats, the kept lot, papers."""

import unittest
from itertools import permutations
from random import Random

from mastcalls.keeping import Kept, Seats, holds_against, is_seatable, kept
from mastcalls.scenes import Call, Scene, wrong_seating
from tests.oracles import (all_small_scenes, beats, best_lot, can_seat, is_paper, mixed_scenes, seatable_lots,
                           subsets)


class SeatsTest(unittest.TestCase):

    def test_empty_at_first(self):
        seats = Seats(Scene({"b": 1, "a": 0}, {"x": Call(1, ["a"])}))
        self.assertEqual((seats.seating, list(seats.seated.items())), ({}, [("a", []), ("b", [])]))
        self.assertEqual((seats.has_room("a"), seats.has_room("b")), (False, True))

    def test_who_has_a_seat_makes_room(self):
        seats = Seats(Scene({"a": 1, "b": 1}, {"x": Call(1, ["a", "b"]), "y": Call(9, ["a"]), "z": Call(9, ["a"])}))
        self.assertTrue(seats.add("x"))
        self.assertTrue(seats.add("y"))
        self.assertEqual((seats.seating, seats.seated), ({"x": "b", "y": "a"}, {"a": ["y"], "b": ["x"]}))
        self.assertIs(seats.add("z"), False)
        self.assertEqual((seats.seating, seats.seated), ({"x": "b", "y": "a"}, {"a": ["y"], "b": ["x"]}))

    def test_a_long_way(self):
        masts = ["m" + str(at) for at in range(30)]
        calls = {"c" + str(at): Call(1, [masts[at], masts[at + 1]]) for at in range(29)}
        calls["last"] = Call(1, ["m0"])
        seats = Seats(Scene({mast: 1 for mast in masts}, calls))
        for name in calls:
            self.assertTrue(seats.add(name))
        self.assertIsNone(wrong_seating(seats.scene, seats.seating))
        self.assertEqual(len(seats.seating), 30)

    def check_adding(self, scene, names):
        seats = Seats(scene)
        so_far = []
        for name in names:
            was = dict(seats.seating)
            can = can_seat(scene, so_far + [name])
            self.assertIs(seats.add(name), can)
            if can:
                so_far.append(name)
            else:
                self.assertEqual(seats.seating, was)
            self.assertIsNone(wrong_seating(scene, seats.seating))
            self.assertEqual(list(seats.seating), sorted(so_far))
            for mast in scene.channels:
                on_it = sorted(call for call in so_far if seats.seating[call] == mast)
                self.assertEqual(sorted(seats.seated[mast]), on_it)
                self.assertIs(seats.has_room(mast), len(on_it) < scene.channels[mast])

    def test_add_seats_a_call_exactly_if_all_so_far_and_it_can_be(self):
        for scene in all_small_scenes(worths=(0,)):
            for names in permutations(scene.calls):
                self.check_adding(scene, names)
        random = Random(61)
        for scene in mixed_scenes(1000, 6):
            names = list(scene.calls)
            random.shuffle(names)
            self.check_adding(scene, names)

    def test_is_seatable(self):
        for scene in mixed_scenes(150, 7):
            before = Scene(scene.channels, scene.calls)
            for lot in subsets(scene.calls):
                self.assertIs(is_seatable(scene, lot), can_seat(scene, lot))
            self.assertEqual(scene, before)
        self.assertTrue(is_seatable(Scene({}, {}), ()))


class KeptTest(unittest.TestCase):

    def test_the_example(self):
        told = Kept(Scene({"a": 1, "b": 1}, {"ann": Call(1, ["a", "b"]), "ben": Call(2, ["a"]), "cat": Call(0, ["b"])}))
        self.assertEqual(told.lot, ("ann", "ben"))
        self.assertEqual(list(told.seating.items()), [("ann", "b"), ("ben", "a")])
        self.assertEqual(told.papers, {"cat": ("ann", "ben", "cat")})

    def test_without_calls_and_without_masts(self):
        told = Kept(Scene({"a": 1}, {}))
        self.assertEqual((told.lot, told.seating, told.papers), ((), {}, {}))
        told = Kept(Scene({}, {"y": Call(5, []), "x": Call(0, [])}))
        self.assertEqual((told.lot, told.seating, told.papers), ((), {}, {"x": ("x",), "y": ("y",)}))

    def test_of_one_worth_the_first_name_is_kept(self):
        self.assertEqual(kept(Scene({"a": 1}, {"y": Call(1, ["a"]), "x": Call(1, ["a"])})), ("x",))
        self.assertEqual(kept(Scene({"a": 1}, {"y": Call(2, ["a"]), "x": Call(1, ["a"])})), ("y",))
        self.assertEqual(Kept(Scene({"a": 0}, {"x": Call(1, ["a"])})).papers, {"x": ("x",)})

    def check(self, scene):
        told = Kept(scene)
        self.assertEqual(told.lot, best_lot(scene))
        self.assertEqual(kept(scene), told.lot)
        self.assertTrue(all(beats(scene, told.lot, lot) for lot in seatable_lots(scene)))
        self.assertIsNone(wrong_seating(scene, told.seating))
        self.assertEqual(tuple(told.seating), told.lot)
        self.assertEqual(list(told.papers), sorted(set(scene.calls) - set(told.lot)))
        for name, paper in told.papers.items():
            self.assertEqual(paper, tuple(sorted(paper)))
            self.assertTrue(is_paper(scene, told.seating, name, paper))
            self.assertIs(holds_against(scene, told.seating, name, paper), True)
        again = Kept(Scene(dict(reversed(scene.channels.items())), dict(reversed(scene.calls.items()))))
        self.assertEqual((again.lot, again.seating, again.papers), (told.lot, told.seating, told.papers))

    def test_it_beats_every_seatable_lot_on_all_small_scenes(self):
        for scene in all_small_scenes():
            self.check(scene)

    def test_it_beats_every_seatable_lot_on_larger_scenes(self):
        for scene in mixed_scenes(1000, 8):
            self.check(scene)

    def test_exactly_who_is_not_kept_has_a_paper(self):
        for scene in list(all_small_scenes((3,))) + mixed_scenes(400, 9):
            told = Kept(scene)
            for name in scene.calls:
                papers = [lot for lot in subsets(scene.calls) if holds_against(scene, told.seating, name, lot)]
                self.assertIs(bool(papers), name not in told.lot)

    def test_the_scene_stays_as_it_is(self):
        for scene in mixed_scenes(50, 10):
            before = Scene(scene.channels, scene.calls)
            Kept(scene)
            self.assertEqual(scene, before)


class PaperTest(unittest.TestCase):

    def setUp(self):
        calls = {"ann": Call(1, ["a", "b"]), "ben": Call(2, ["a"]), "cat": Call(0, ["b"]), "dan": Call(0, []),
                 "eve": Call(0, ["b"])}
        self.scene = Scene({"a": 1, "b": 1}, calls)
        self.seating = {"ann": "b", "ben": "a"}

    def holds(self, name, *lot):
        return holds_against(self.scene, self.seating, name, lot)

    def test_papers(self):
        self.assertTrue(self.holds("cat", "ann", "ben", "cat"))
        self.assertTrue(self.holds("cat", "cat", "ben", "ann"))
        self.assertTrue(self.holds("dan", "dan"))

    def test_no_papers(self):
        self.assertFalse(self.holds("cat"))
        self.assertFalse(self.holds("cat", "ann", "ben"))
        self.assertFalse(self.holds("cat", "ben", "cat"))
        self.assertFalse(self.holds("cat", "cat"))

    def test_a_call_that_stands_twice(self):
        self.assertFalse(self.holds("cat", "ann", "ben", "cat", "cat"))
        self.assertFalse(self.holds("cat", "ann", "ann", "cat"))
        self.assertFalse(self.holds("dan", "dan", "dan"))

    def test_a_call_that_is_not_there(self):
        self.assertFalse(self.holds("cat", "ann", "ben", "cat", "fay"))
        self.assertFalse(self.holds("fay", "ann", "ben", "fay"))
        self.assertFalse(self.holds("fay", "ann"))
        self.assertFalse(self.holds("fay"))
        self.assertFalse(self.holds("cat", "ann", "ben", "cat", ""))

    def test_others_are_earlier_and_have_a_seat(self):
        self.assertFalse(self.holds("cat", "ann", "cat", "eve"))
        self.assertFalse(self.holds("eve", "ann", "ben", "cat", "eve"))
        self.assertTrue(self.holds("eve", "ann", "ben", "eve"))
        self.seating = {"ben": "a", "cat": "b"}
        self.assertFalse(self.holds("ann", "ann", "ben", "cat"))

    def test_against_the_words_of_the_document(self):
        for scene in mixed_scenes(60, 11, most_calls=4):
            told = Kept(scene)
            for lot in subsets(scene.calls):
                for name in scene.calls:
                    self.assertIs(holds_against(scene, told.seating, name, lot),
                                  is_paper(scene, told.seating, name, lot))
