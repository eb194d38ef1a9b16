"""[28]: tours, pieces, stops."""

import unittest
from itertools import combinations, product
from random import Random

from mastcalls.tours import covers, pieces_of, shows_many, stops_of
from tests.oracles import subsets

ROWS = [("a",), ("a", "b"), ("a", "b"), ("b",), (), ("c", "b"), ("b",)]


def fewest_pieces(rows):
    """How few pieces can be, worked out tick by tick."""
    fewest, on = 0, {}
    for row in rows:
        here = {mast: min(fewest + 1, on.get(mast, fewest + 1)) for mast in row}
        if here:
            fewest = min(here.values())
        on = here
    return fewest


def does_cover(rows, pieces):
    """Whether pieces cover the ticks at which a mast hears the call, by the words of the document."""
    ticks = []
    for mast, first, last in pieces:
        if not 0 <= first <= last < len(rows) or any(mast not in rows[tick] for tick in range(first, last + 1)):
            return False
        ticks += list(range(first, last + 1))
    return ticks == sorted(set(ticks)) and set(ticks) == {tick for tick, row in enumerate(rows) if row}


def do_show(rows, stops):
    """Whether ticks show that as many pieces are needed, by the words of the document."""
    if any(not 0 <= tick < len(rows) or not rows[tick] for tick in stops) or stops != sorted(set(stops)):
        return False
    for one, other in zip(stops, stops[1:]):
        if any(all(mast in row for row in rows[one:other + 1]) for mast in rows[one]):
            return False
    return True


class TourTest(unittest.TestCase):

    def test_the_example(self):
        self.assertEqual(pieces_of(ROWS), [("a", 0, 2), ("b", 3, 3), ("b", 5, 6)])
        self.assertTrue(shows_many(ROWS, [0, 3, 5]))
        self.assertEqual(stops_of(ROWS), [0, 3, 5])

    def test_no_tour_at_all(self):
        for rows in ([], [()], [(), ()]):
            self.assertEqual((pieces_of(rows), stops_of(rows)), ([], []))
            self.assertTrue(covers(rows, []))
            self.assertFalse(covers(rows, [("a", 0, 0)]))
            self.assertTrue(shows_many(rows, []))
            self.assertFalse(shows_many(rows, [0]))

    def test_ties_go_to_the_first_mast_told(self):
        self.assertEqual(pieces_of([("b", "a"), ("a", "b")]), [("b", 0, 1)])
        self.assertEqual(pieces_of([("a", "b"), ("b", "a")]), [("a", 0, 1)])
        self.assertEqual(pieces_of([("c", "b", "a"), ("a", "b")]), [("b", 0, 1)])
        self.assertEqual(pieces_of([("c", "a", "b"), ("a", "b"), ("b", "a", "c")]), [("a", 0, 2)])

    def test_pieces_that_do_not_cover(self):
        right = [("a", 0, 2), ("b", 3, 3), ("b", 5, 6)]
        self.assertTrue(covers(ROWS, right))
        self.assertTrue(covers(ROWS, [("a", 0, 0), ("b", 1, 1), ("a", 2, 2), ("b", 3, 3), ("c", 5, 5), ("b", 6, 6)]))
        self.assertTrue(covers(ROWS, [("a", 0, 0), ("b", 1, 3), ("b", 5, 6)]))
        for pieces in ([], right[:2], right[1:], [right[1], right[0], right[2]], right + [right[2]],
                       right + [("b", 7, 7)],
                       [("a", 0, 2), ("b", 2, 3), ("b", 5, 6)], [("a", 0, 2), ("b", 3, 6)], [("a", 0, 3), ("b", 5, 6)],
                       [("a", -100, 2), ("b", 3, 3), ("b", 5, 6)],
                       [("b", 0, 3), ("b", 5, 6)], [("a", 0, 2), ("b", 3, 3), ("c", 5, 6)], right + [("b", 6, 5)],
                       [("a", 0, 2), ("b", 3, 3), ("q", 4, 4), ("b", 5, 6)], [("a", -7, 2), ("b", 3, 3), ("b", 5, 6)],
                       [("a", 0, 2), ("b", 3, 3), ("b", 5, 7)], [("a", 0, 2), ("b", 3, 3), ("b", 5, 10 ** 12)],
                       [("a", 0, 2), ("b", 3, 3), ("b", -2, -1)], [("a", 0, 1), ("b", 3, 3), ("b", 5, 6)],
                       [("a", 0, 2), ("b", 3, 3), ("b", 3, 2), ("b", 5, 6)]):
            self.assertFalse(covers(ROWS, pieces), pieces)

    def test_stops_that_do_not_show(self):
        for stops in ([], [0], [0, 3], [3, 5], [0, 3, 6], [2, 5], [0, 5]):
            self.assertTrue(shows_many(ROWS, stops), stops)
        for stops in ([0, 1], [0, 2], [1, 3], [0, 0], [3, 0], [0, 3, 5, 6], [4], [0, 4], [7], [-1], [-7], [0, 3, 7],
                      [0, 3, 3], [5, 3, 0], [10 ** 12]):
            self.assertFalse(shows_many(ROWS, stops), stops)

    def check(self, rows):
        was = list(rows)
        pieces, stops = pieces_of(rows), stops_of(rows)
        self.assertIsInstance(pieces, list)
        self.assertIsInstance(stops, list)
        self.assertTrue(does_cover(rows, pieces))
        self.assertTrue(covers(rows, pieces))
        self.assertEqual(len(pieces), fewest_pieces(rows))
        self.assertEqual(stops, [piece[1] for piece in pieces])
        self.assertTrue(do_show(rows, stops))
        self.assertTrue(shows_many(rows, stops))
        for mast, first, last in pieces:
            lasts = {}
            for other in rows[first]:
                lasts[other] = first
                while lasts[other] + 1 < len(rows) and other in rows[lasts[other] + 1]:
                    lasts[other] += 1
            self.assertEqual((mast, last), (max(rows[first], key=lasts.get), max(lasts.values())))
        self.assertEqual((pieces_of(rows), stops_of(rows), rows), (pieces, stops, was))
        return pieces, stops

    def test_all_short_tours(self):
        for many in range(5):
            for rows in product(subsets("ab"), repeat=many):
                self.check(list(rows))

    def test_drawn_tours(self):
        random = Random(281)
        for _ in range(600):
            rows = []
            for _ in range(random.randint(1, 14)):
                stays = rows[-1] if rows and random.random() < 0.6 else ()
                row = sorted({*stays, *random.sample("abcd", random.randint(0, 2))} - set(random.sample("abcd", 1)))
                random.shuffle(row)
                rows.append(tuple(row) if random.random() < 0.85 else ())
            pieces, stops = self.check(rows)
            for _ in range(15):
                self.spoil(random, rows, list(pieces), list(stops))

    def spoil(self, random, rows, pieces, stops):
        """Changes something, and looks whether it still counts."""
        if pieces:
            at = random.randrange(len(pieces))
            mast, first, last = pieces[at]
            by = random.choice([-1, 1])
            pieces[at] = random.choice([(random.choice("abcd"), first, last), (mast, first + by, last),
                                        (mast, first, last + by)])
        if random.random() < 0.3:
            pieces.insert(random.randint(0, len(pieces)),
                          (random.choice("abcd"), random.randint(-1, len(rows)), random.randint(-1, len(rows))))
        self.assertEqual(covers(rows, pieces), does_cover(rows, pieces))
        stops = random.choice([stops, stops[:], sorted(random.sample(range(len(rows)), random.randint(0, len(rows))))])
        stops.insert(random.randint(0, len(stops)), random.randint(-1, len(rows)))
        if random.random() < 0.5:
            del stops[random.randrange(len(stops))]
        self.assertEqual(shows_many(rows, stops), do_show(rows, stops))

    def test_no_more_ticks_show_than_pieces_are_needed(self):
        random = Random(282)
        for _ in range(150):
            rows = [tuple(random.sample("abc", random.choice([0, 1, 1, 2, 2, 3]))) for _ in range(7)]
            most = max(len(stops) for many in range(8) for stops in combinations(range(7), many)
                       if shows_many(rows, list(stops)))
            self.assertEqual(most, len(pieces_of(rows)))

    def test_a_long_tour(self):
        rows = [("m" + str(at // 100), "m" + str(at // 100 + 1)) for at in range(20000)]
        self.assertEqual(len(pieces_of(rows)), 100)
        self.assertTrue(covers(rows, pieces_of(rows)) and shows_many(rows, stops_of(rows)))
