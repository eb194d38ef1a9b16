"""[2], [40]: the errors."""

import unittest

from mastcalls.crowderrors import TooMany
from mastcalls.errors import BadCut, BadName, BadScene, BadText, CallError


class ErrorsTest(unittest.TestCase):

    def test_they_stand_directly_below_call_error(self):
        self.assertEqual(CallError.__bases__, (Exception,))
        for kind in (BadScene, BadName, BadCut, BadText, TooMany):
            self.assertEqual(kind.__bases__, (CallError,))

    def test_they_keep_their_arguments(self):
        self.assertEqual(BadScene("mast").word, "mast")
        self.assertEqual(BadName(("tick", 1)).name, ("tick", 1))
        self.assertEqual(BadCut(-1).place, -1)
        self.assertEqual([TooMany(most).most for most in (0, 12, None)], [0, 12, None])
        wrong = BadText(3, 5)
        self.assertEqual((wrong.line, wrong.word), (3, 5))

    def test_they_can_be_raised_and_shown(self):
        for wrong in (BadScene("mast"), BadName(None), BadCut(7), BadText(1, 2), TooMany(3), CallError()):
            with self.assertRaises(CallError) as caught:
                raise wrong
            self.assertIsInstance(str(caught.exception), str)
