"""[51]: drawings of towns."""

import unittest
from random import Random

from mastcalls.drawings import (Drawing, Site, heard_picture, map_of, read_drawing, write_drawing, zone_of)
from mastcalls.errors import BadText
from mastcalls.maps import Map

TEXT = "mast a 0 1 5 2\nmast bob 2 0 0 1\n..#\n#..\n..."
DRAWING = Drawing(["..#", "#..", "..."], {"bob": Site(2, 0, 0, 1), "a": Site(0, 1, 5, 2)})


def drawn_drawing(random):
    """Some drawing; masts may stand beside it."""
    columns = random.randint(1, 5)
    rows = ["".join(random.choice("..#") for _ in range(columns)) for _ in range(random.randint(1, 5))]
    sites = {}
    for name in random.sample(["a", "b", "c9", "mast", "d", "e", "f"], random.randint(0, 7)):
        sites[name] = Site(random.randint(0, 6), random.randint(0, 6), random.randint(0, 1000),
                           random.choice([0, 1, 2, 4, 5, 99999]))
    return Drawing(rows, sites)


def copy_of_drawing(drawing):
    """Another drawing that is the same."""
    sites = {name: Site(site.row, site.column, site.channels, site.square) for name, site in drawing.sites.items()}
    return Drawing(list(drawing.rows), sites)


def heard_by_hand(drawing, row, column):
    """The masts that hear a cell, ascending."""
    heard = []
    for name, site in drawing.sites.items():
        if (site.row - row) ** 2 + (site.column - column) ** 2 <= site.square:
            heard.append(name)
    return tuple(sorted(heard))


class DrawingTest(unittest.TestCase):

    def test_sites(self):
        site = Site(1, 2, 3, 4)
        self.assertEqual((site.row, site.column, site.channels, site.square), (1, 2, 3, 4))
        self.assertEqual(site, Site(1, 2, 3, 4))
        for other in (Site(0, 2, 3, 4), Site(1, 0, 3, 4), Site(1, 2, 0, 4), Site(1, 2, 3, 0), None, (1, 2, 3, 4)):
            self.assertFalse(site == other)

    def test_attributes_and_equality(self):
        self.assertEqual((DRAWING.rows, list(DRAWING.sites)), (("..#", "#..", "..."), ["a", "bob"]))
        self.assertEqual(DRAWING, copy_of_drawing(DRAWING))
        for other in (Drawing(DRAWING.rows[:2], DRAWING.sites), Drawing(DRAWING.rows, {"a": DRAWING.sites["a"]}),
                      Drawing(DRAWING.rows, {**DRAWING.sites, "a": Site(0, 1, 5, 3)}), None, TEXT):
            self.assertFalse(DRAWING == other)

    def test_cells(self):
        self.assertEqual(DRAWING.cells(), [(0, 0), (0, 1), (1, 1), (1, 2), (2, 0), (2, 1), (2, 2)])
        self.assertEqual((Drawing(["##"], {}).cells(), Drawing((), {}).cells()), ([], []))

    def test_hears(self):
        drawing = Drawing(["."], {"a": Site(50, 50, 1, 25), "b": Site(0, 0, 1, 0)})
        for cell, answer in (((50, 50), True), ((53, 54), True), ((47, 46), True), ((55, 50), True), ((50, 45), True),
                             ((54, 54), False), ((56, 50), False), ((50, 44), False), ((0, 0), False)):
            self.assertIs(drawing.hears("a", cell), answer, cell)
        self.assertEqual([drawing.hears("b", cell) for cell in ((0, 0), (0, 1), (1, 0))], [True, False, False])
        # Also of what is no cell that calls can be in.
        self.assertTrue(DRAWING.hears("a", (0, 2)))

    def test_deaf_cells(self):
        self.assertEqual(DRAWING.deaf_cells(), [(2, 2)])
        self.assertEqual(Drawing([".#", ".."], {}).deaf_cells(), [(0, 0), (1, 0), (1, 1)])

    def test_zone_of(self):
        self.assertEqual([zone_of(cell) for cell in ((0, 0), (7, 10), (99, 99))], ["r0c0", "r7c10", "r99c99"])

    def test_map_of(self):
        plan = map_of(DRAWING)
        pairs = [("r0c0", "r0c1"), ("r0c1", "r1c1"), ("r1c1", "r1c2"), ("r1c1", "r2c1"), ("r1c2", "r2c2"),
                 ("r2c0", "r2c1"), ("r2c1", "r2c2")]
        heard = {"r0c0": ("a",), "r0c1": ("a",), "r1c1": ("a",), "r1c2": ("a",), "r2c0": ("bob",), "r2c1": ("bob",),
                 "r2c2": ()}
        self.assertEqual(plan, Map({"a": 5, "bob": 0}, heard, pairs + [pair[::-1] for pair in pairs]))
        self.assertEqual(map_of(Drawing(["#"], {"a": Site(0, 0, 1, 1)})), Map({"a": 1}, {}, ()))

    def test_pictures(self):
        self.assertEqual(heard_picture(DRAWING), ["11#", "#11", "110"])
        for many, sign in ((0, "0"), (1, "1"), (8, "8"), (9, "9"), (10, "9"), (25, "9")):
            sites = {"m" + str(at): Site(0, 0, 1, 0) for at in range(many)}
            self.assertEqual(heard_picture(Drawing([".#."], sites)), [sign + "#0"])

    def test_large(self):
        drawing = Drawing(["." * 100] * 100, {"a": Site(99, 99, 1, 1)})
        self.assertEqual(read_drawing(write_drawing(drawing)), drawing)
        plan = map_of(drawing)
        self.assertEqual((len(plan.heard), len(plan.roads)), (10000, 4 * 99 * 100))
        self.assertEqual([zone for zone in plan.heard if plan.heard[zone]], ["r98c99", "r99c98", "r99c99"])

    def test_drawn(self):
        random = Random(511)
        for _ in range(300):
            drawing = drawn_drawing(random)
            was = copy_of_drawing(drawing)
            free = [(row, column) for row, signs in enumerate(drawing.rows)
                    for column, sign in enumerate(signs) if sign == "."]
            self.assertEqual(drawing.cells(), free)
            heard = {cell: heard_by_hand(drawing, *cell) for cell in free}
            self.assertEqual(drawing.deaf_cells(), [cell for cell in free if not heard[cell]])
            for cell in free:
                for mast in drawing.sites:
                    self.assertIs(drawing.hears(mast, cell), mast in heard[cell])
            roads = [(zone_of(one), zone_of(other)) for one in free for other in free
                     if abs(one[0] - other[0]) + abs(one[1] - other[1]) == 1]
            channels = {mast: site.channels for mast, site in drawing.sites.items()}
            self.assertEqual(map_of(drawing), Map(channels, {zone_of(cell): heard[cell] for cell in free}, roads))
            rows = ["".join(str(min(9, len(heard[row, column]))) if sign == "." else "#"
                            for column, sign in enumerate(signs)) for row, signs in enumerate(drawing.rows)]
            self.assertEqual(heard_picture(drawing), rows)
            self.assertEqual(drawing, was)
            text = write_drawing(drawing)
            self.assertEqual(read_drawing(text), drawing)
            self.assertEqual(write_drawing(read_drawing(text)), text)


class TextTest(unittest.TestCase):

    def wrong(self, text):
        with self.assertRaises(BadText, msg=text) as caught:
            read_drawing(text)
        return caught.exception.line, caught.exception.word

    def test_write_and_read(self):
        self.assertEqual(write_drawing(DRAWING), TEXT)
        self.assertEqual(read_drawing(TEXT), DRAWING)
        self.assertEqual(read_drawing("mast bob 2 0 0 1\nmast a 0 1 5 2\n..#\n#..\n..."), DRAWING)
        self.assertEqual((write_drawing(Drawing(["."], {})), read_drawing(".")), (".", Drawing(["."], {})))
        great = Drawing(["#" * 100], {"a": Site(99, 99, 1000, 99999), "b": Site(0, 0, 0, 0)})
        self.assertEqual(read_drawing(write_drawing(great)), great)

    def test_wrong_words_of_masts(self):
        for row, word in (("mast", 1), ("mast ", 1), ("mast A 1 1 1 1", 1), ("mast a 1 1 1 1", 1), ("mast a x", 1),
                          ("mast  b 1 1 1 1", 1), ("mast abcdefghi 1 1 1 1", 1), ("mast b", 2), ("mast b ", 2),
                          ("mast b x 1 1 1", 2), ("mast b 100 1 1 1", 2), ("mast b 01 1 1 1", 2),
                          ("mast b -1 1 1 1", 2), ("mast b 1", 3), ("mast b 1 100 1 1", 3), ("mast b 1 1.0 1 1", 3),
                          ("mast b 1 1", 4), ("mast b 1 1 1001 1", 4), ("mast b 1 1 x 1", 4), ("mast b 1 1 1", 5),
                          ("mast b 1 1 1 100000", 5), ("mast b 1 1 1 1234567890123", 5), ("mast b 1 1 1 ", 5),
                          ("mast b 1 1 1 1 ", 6), ("mast b 1 1 1 1 1", 6), ("mast b 1 1 1 1 x y", 6),
                          ("mast b 100 x 1 1 1 1", 2), ("mast b 1 1 1001 100000 1", 4), ("mast b 00 1 1 1", 2)):
            for rest in ("\n..", "\nx", ""):
                self.assertEqual(self.wrong("mast a 0 0 1 1\n" + row + rest), (1, word), row)

    def test_rows_that_cannot_be(self):
        for text, line in (("", 0), ("\n", 0), ("\n..", 0), ("..\n", 1), ("..\n\n..", 1), ("..\n.", 1), ("..\n...", 1),
                           ("..\n.x", 1), (". .", 0), ("x", 0), (" ..", 0), (".. ", 0), ("..\nmast b 1 1 1 1", 1),
                           ("....\nmast", 1), ("masts b 1 1 1 1\n..", 0), ("Mast b 1 1 1 1\n..", 0),
                           ("#" * 101, 0), (("." * 101 + "\n") * 2, 0), ("..\n##\n#x\n...", 2),
                           ("\n".join(["."] * 101), 100), ("\n".join(["."] * 100 + [""]), 100),
                           ("\n".join(["."] * 100 + ["x"]), 100), ("..\r\n..", 0)):
            self.assertEqual(self.wrong(text), (line, 0), text)
            masts = "mast y 1 1 1 1\nmast x 1 1 1 1\n"
            self.assertEqual(self.wrong(masts + text), (line + 2, 0), text)
        self.assertEqual(len(read_drawing("\n".join(["."] * 100)).rows), 100)
        self.assertEqual(len(read_drawing("." * 100).rows[0]), 100)

    def test_no_row(self):
        self.assertEqual(self.wrong("mast a 1 1 1 1"), (1, 0))
        self.assertEqual(self.wrong("mast a 1 1 1 1\nmast b 1 1 1 1"), (2, 0))
        self.assertEqual(self.wrong("mast a 1 1 1 1\n"), (1, 0))
        self.assertEqual(self.wrong("mast a 1 1 1 1\nmast a 1 1 1 1"), (1, 1))

    def test_texts_with_one_word_changed(self):
        random = Random(512)
        for _ in range(300):
            drawing = drawn_drawing(random)
            lines = write_drawing(drawing).split("\n")
            line = random.randrange(len(lines))
            words = lines[line].split(" ")
            at = random.randrange(len(words))
            words[at] = "Q" if at else random.choice(["Q", "", "tock", words[0] + "x"])
            lines[line] = " ".join(words)
            # What is no mast any more is a row, which has its one sign wrong already.
            self.assertEqual(self.wrong("\n".join(lines)), (line, at))
