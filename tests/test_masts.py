"""[17]: masts."""

import unittest
from itertools import permutations, product

from mastcalls.masts import Mast


class MastTest(unittest.TestCase):

    def test_at_first(self):
        mast = Mast("a")
        self.assertEqual((mast.name, mast.number, mast.rows), ("a", 0, {}))
        self.assertIsNone(mast.lead_up("ann", "frame"))
        self.assertIsNone(mast.lead_down("ann", 0, "frame"))

    def test_lists(self):
        mast = Mast("a")
        mast.take(3, (("ben", 2), ("ann", 1)))
        self.assertEqual((mast.number, list(mast.rows.items())), (3, [("ann", 1), ("ben", 2)]))
        mast.take(2, (("cat", 3),))
        self.assertEqual((mast.number, mast.rows), (3, {"ann": 1, "ben": 2}))
        mast.take(4, ())
        self.assertEqual((mast.number, mast.rows), (4, {}))
        mast.take(0, (("ann", 1),))
        self.assertEqual((mast.number, mast.rows), (4, {}))

    def test_a_list_with_the_same_number_is_taken(self):
        mast = Mast("a")
        mast.take(0, ())
        self.assertEqual((mast.number, mast.rows), (0, {}))
        mast.take(2, (("ann", 1),))
        mast.fall()
        self.assertEqual((mast.number, mast.rows), (2, {}))
        self.assertIsNone(mast.lead_up("ann", "frame"))
        mast.take(1, (("ben", 1),))
        self.assertEqual(mast.rows, {})
        mast.take(2, (("ann", 1),))
        self.assertEqual(mast.rows, {"ann": 1})

    def test_in_any_order_doubled_some_never(self):
        lists = [(1, (("ann", 1),)), (4, (("ann", 1), ("ben", 3))), (6, ()), (9, (("cat", 7),))]
        for many in product(range(3), repeat=4):
            row = [told for told, times in zip(lists, many) for _ in range(times)]
            if len(row) > 5:
                continue
            for turn in set(permutations(row)):
                mast = Mast("a")
                for number, rows in turn:
                    mast.take(number, rows)
                last = max(turn, default=(0, ()))
                self.assertEqual((mast.number, mast.rows), (last[0], dict(last[1])))

    def test_frames_in_their_epochs_alone(self):
        mast = Mast("a")
        rows = (("ann", 5), ("ben", 7))
        mast.take(2, rows)
        frame = ("frame", 0, "hi", 0)
        self.assertEqual(mast.lead_up("ann", frame), ("up", "ann", 5, frame))
        self.assertEqual(mast.lead_up("ben", frame), ("up", "ben", 7, frame))
        self.assertIsNone(mast.lead_up("cat", frame))
        self.assertEqual(mast.lead_down("ann", 5, frame), ("air", "ann", 5, frame))
        for call, epoch in (("ann", 4), ("ann", 6), ("ann", 7), ("ben", 5), ("cat", 5), ("cat", None), ("ann", 0)):
            self.assertIsNone(mast.lead_down(call, epoch, frame))
        mast.take(3, (("ann", 8),))
        self.assertEqual(mast.lead_up("ann", frame), ("up", "ann", 8, frame))
        self.assertIsNone(mast.lead_down("ann", 5, frame))
        self.assertIsNone(mast.lead_up("ben", frame))
