"""[15]: deeds as lines, and back."""

import unittest

from mastcalls.deeds import deed_line, read_deed, read_deeds, write_deeds
from mastcalls.errors import BadText

LINES = [
    (("mast", "a", 0), "mast a 0"),
    (("mast", "mast", 1000), "mast mast 1000"),
    (("down", "a"), "down a"),
    (("up", "a1b2c3d4"), "up a1b2c3d4"),
    (("begin", "ann", 7), "begin ann 7"),
    (("hear", "ann", 0, ()), "hear ann 0"),
    (("hear", "ann", 12, ("b",)), "hear ann 12 b"),
    (("hear", "ann", 999999999999, ("b", "a", "b")), "hear ann 999999999999 b a b"),
    (("end", "ann"), "end ann"),
    (("tick",), "tick"),
]

# A line, and its first word that can't stand there.
WRONG = [
    ("", 0), (" ", 0), ("mas a 1", 0), ("Mast a 1", 0), (" mast a 1", 0), ("a", 0), ("0", 0), ("\ttick", 0),
    ("tick\n", 0), ("tick\r", 0),
    ("mast", 1), ("mast ", 1), ("mast  a 1", 1), ("mast A 1", 1), ("mast 1 1", 1), ("mast abcdefghi 1", 1),
    ("mast a", 2), ("mast a ", 2), ("mast a b", 2), ("mast a 01", 2), ("mast a 00", 2), ("mast a -1", 2),
    ("mast a +1", 2), ("mast a 1_0", 2), ("mast a 1.0", 2), ("mast a 1234567890123", 2),
    ("mast a \u0661", 2), ("mast a \u00b2", 2), ("mast a  1", 2),
    ("mast a 1 ", 3), ("mast a 1 1", 3), ("mast a 1 a b", 3),
    ("mast A x y z", 1), ("mast a x y z", 2),
    ("down", 1), ("down 5", 1), ("down a b", 2), ("down a ", 2), ("up", 1), ("up a b", 2), ("up \u00e4", 1),
    ("begin", 1), ("begin ann", 2), ("begin ann x", 2), ("begin ann 1 2", 3), ("begin Ann", 1),
    ("hear", 1), ("hear ann", 2), ("hear ann a", 2), ("hear ann 1 A", 3), ("hear ann 1 ", 3), ("hear ann 1 a ", 4),
    ("hear ann 1 a 1 B", 4), ("hear ann 1 a  b", 4), ("hear ann 1000000000000", 2), ("hear ann 1 a\n", 3),
    ("end", 1), ("end ann ann", 2), ("end 1", 1),
    ("tick ", 1), ("tick tick", 1), ("tick 1 2", 1),
]


class DeedLineTest(unittest.TestCase):

    def test_there_and_back(self):
        for deed, line in LINES:
            self.assertEqual(deed_line(deed), line)
            self.assertEqual(read_deed(line, 5), deed)

    def test_back_are_tuples_of_names_and_integers(self):
        deed = read_deed("hear ann 3 a b", 0)
        self.assertIsInstance(deed, tuple)
        self.assertIsInstance(deed[2], int)
        self.assertIsInstance(deed[3], tuple)

    def test_numbers_beyond_what_may_be_are_read(self):
        self.assertEqual(read_deed("mast a 999999999999", 0), ("mast", "a", 999999999999))
        self.assertEqual(read_deed("begin ann 1001", 0), ("begin", "ann", 1001))

    def test_the_first_word_that_cannot_stand_there(self):
        for text, word in WRONG:
            for line in (0, 7):
                with self.assertRaises(BadText, msg=text) as caught:
                    read_deed(text, line)
                self.assertEqual((caught.exception.line, caught.exception.word), (line, word), repr(text))


class DeedsTest(unittest.TestCase):

    def test_none(self):
        self.assertEqual(write_deeds([]), "")
        self.assertEqual(read_deeds(""), ())

    def test_all(self):
        deeds = tuple(deed for deed, _ in LINES)
        text = write_deeds(deeds)
        self.assertEqual(text, "\n".join(line for _, line in LINES))
        self.assertEqual(read_deeds(text), deeds)
        self.assertEqual(write_deeds(list(deeds)), text)
        self.assertEqual(read_deeds("tick"), (("tick",),))

    def test_wrong_lines(self):
        for text, line, word in (("\n", 0, 0), ("tick\n", 1, 0), ("tick\n\ntick", 1, 0), ("tick\nup a b\nx", 1, 2),
                                 ("tick\ntick\ndown", 2, 1), ("tick\r\ntick", 0, 0), ("tick\x0ctick", 0, 0),
                                 ("mast a\nx", 0, 2)):
            with self.assertRaises(BadText) as caught:
                read_deeds(text)
            self.assertEqual((caught.exception.line, caught.exception.word), (line, word), repr(text))
