"""The examples of README.md."""

import doctest
import unittest
from pathlib import Path

README = Path(__file__).resolve().parent.parent / "README.md"


class ReadmeTest(unittest.TestCase):

    def test_examples(self):
        many = 0
        # The odd parts of the text stand between fences, which are no lines of an answer.
        for block in README.read_text().split("```")[1::2]:
            examples = doctest.DocTestParser().get_doctest(block, {}, "README.md", None, None)
            told = doctest.DocTestRunner().run(examples)
            self.assertEqual(told.failed, 0)
            many += told.attempted
        self.assertGreater(many, 5)
