"""[2]: integers that are no bools, and keys that ascend."""

import unittest
from itertools import permutations

from mastcalls.helpers import has_key, is_number, put_in_order


class HelpersTest(unittest.TestCase):

    def test_is_number(self):
        for thing in (0, 5, 10):
            self.assertTrue(is_number(thing, 0, 10))
        for thing in (-1, 11, True, False, "5", None, 5.0, (5,)):
            self.assertFalse(is_number(thing, 0, 10))

    def test_has_key_of_anything(self):
        self.assertTrue(has_key({"a": 1}, "a"))
        for thing in ("b", "", None, 1, ["a"], {"a": 1}, ("a",)):
            self.assertFalse(has_key({"a": 1}, thing))

    def test_put_in_order(self):
        for keys in permutations(("a", "b", "c", "d")):
            table = {}
            for at, key in enumerate(keys):
                put_in_order(table, key, at)
                self.assertEqual(list(table), sorted(table))
            for key in keys:
                put_in_order(table, key, key)
            self.assertEqual(list(table.items()), [("a", "a"), ("b", "b"), ("c", "c"), ("d", "d")])
