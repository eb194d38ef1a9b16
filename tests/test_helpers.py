"""[2]: integers that are no bools, keys that ascend, letters at places."""

import unittest
from itertools import permutations

from mastcalls.errors import BadName
from mastcalls.helpers import has_key, is_number, put_in_order, take_letter


class HelpersTest(unittest.TestCase):

    def test_is_number(self):
        for thing in (0, 5, 10):
            self.assertTrue(is_number(thing, 0, 10))
        for thing in (-1, 11, True, False, "5", None, 5.0, (5,)):
            self.assertFalse(is_number(thing, 0, 10))

    def test_has_key_of_anything(self):
        self.assertTrue(has_key({"a": 1}, "a"))
        for thing in ("b", "", None, 1, ["a"], {"a": 1}, ("a",)):
            self.assertFalse(has_key({"a": 1}, thing))

    def test_put_in_order(self):
        for keys in permutations(("a", "b", "c", "d")):
            table = {}
            for at, key in enumerate(keys):
                put_in_order(table, key, at)
                self.assertEqual(list(table), sorted(table))
            for key in keys:
                put_in_order(table, key, key)
            self.assertEqual(list(table.items()), [("a", "a"), ("b", "b"), ("c", "c"), ("d", "d")])

    def test_take_letter(self):
        letters = ["x", "y", "z"]
        self.assertEqual((take_letter(letters, 1, True), letters), ("y", ["x", "y", "z"]))
        self.assertEqual((take_letter(letters, 1, False), letters), ("y", ["x", "z"]))
        for at in (2, -1, True, False, None, "0", 0.0):
            for is_kept in (True, False):
                with self.assertRaises(BadName) as caught:
                    take_letter(letters, at, is_kept)
                self.assertIs(caught.exception.name, at)
        self.assertEqual(letters, ["x", "z"])
