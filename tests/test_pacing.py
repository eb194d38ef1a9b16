"""[35]: two ends by a clock."""

import unittest
from random import Random

from mastcalls.ends import End
from mastcalls.errors import BadName
from mastcalls.pacing import Pace, slowest

WRONG_NUMBERS = (True, False, None, "1", (1,), 1.0, -1)


def picture(pace):
    """All that can be seen of a pace."""
    ends = [(list(end.out), end.answered, list(end.told), end.epoch) for end in pace.ends]
    return pace.delay, pace.losses, pace.time, ends


class PaceTest(unittest.TestCase):

    def test_a_new_one(self):
        pace = Pace(3, 2)
        self.assertEqual(picture(pace), (3, 2, 0, [([], 0, [], 0)] * 2))
        self.assertIsInstance(pace.ends, tuple)
        self.assertTrue(all(isinstance(end, End) for end in pace.ends))
        self.assertTrue(pace.is_done())
        for delay, losses in ((1, 0), (1000, 1000)):
            self.assertEqual(picture(Pace(delay, losses))[:2], (delay, losses))

    def test_wrong_arguments(self):
        for delay in WRONG_NUMBERS + (0, 1001):
            for losses in (0, -1):
                with self.assertRaises(BadName) as caught:
                    Pace(delay, losses)
                self.assertIs(caught.exception.name, delay)
        for losses in WRONG_NUMBERS + (1001,):
            with self.assertRaises(BadName) as caught:
                Pace(1, losses)
            self.assertIs(caught.exception.name, losses)

    def test_frames_of_one_tick(self):
        pace = Pace(1, 0)
        pace.put(0, "hi")
        pace.put(1, "ho")
        self.assertFalse(pace.is_done())
        pace.tick(((False, 1), (False, 1)))
        self.assertEqual(picture(pace), (1, 0, 1, [(["hi"], 0, ["ho"], 1), (["ho"], 0, ["hi"], 1)]))
        self.assertFalse(pace.is_done())
        pace.tick([(False, 1), (False, 1)])
        self.assertEqual(picture(pace), (1, 0, 2, [(["hi"], 1, ["ho"], 1), (["ho"], 1, ["hi"], 1)]))
        self.assertTrue(pace.is_done())

    def test_told_but_not_answered_is_not_done(self):
        pace = Pace(1, 5)
        pace.put(0, "hi")
        pace.tick([(False, 1), (True, 1)])
        self.assertEqual((pace.ends[1].told, pace.is_done()), (["hi"], False))
        pace.tick([(True, 1), (False, 1)])
        self.assertTrue(pace.is_done())

    def test_frames_take_their_ticks(self):
        pace = Pace(3, 0)
        pace.put(0, "one")
        pace.tick([(False, 3), (False, 1)])
        pace.put(0, "two")
        pace.tick([(False, 2), (False, 1)])
        self.assertEqual(pace.ends[1].told, [])
        pace.put(0, "six")
        pace.tick([(False, 3), (False, 1)])
        self.assertEqual((pace.ends[1].told, pace.ends[1].epoch), (["one", "two"], 1))
        pace.tick([(False, 3), (False, 1)])
        self.assertEqual(pace.ends[1].told, ["one", "two"])
        self.assertEqual(pace.ends[0].answered, 2)
        pace.tick([(False, 1), (False, 1)])
        self.assertEqual(pace.ends[1].told, ["one", "two", "six"])

    def test_no_more_losses_in_a_row_than_told(self):
        for losses in range(4):
            pace = Pace(1, losses)
            came = []
            for at in range(12):
                many = len(pace.ends[1].told)
                pace.put(0, "w" + str(at))
                pace.tick([(True, 1), (False, 1)])
                came.append(len(pace.ends[1].told) > many)
            self.assertEqual(came, [at % (losses + 1) == losses for at in range(12)])

    def test_each_end_has_its_own_losses(self):
        pace = Pace(1, 1)
        pace.put(0, "hi")
        pace.put(1, "ho")
        pace.tick([(True, 1), (False, 1)])
        pace.tick([(False, 1), (True, 1)])
        self.assertEqual([end.told for end in pace.ends], [["ho"], ["hi"]])
        pace.put(0, "he")
        pace.tick([(True, 1), (True, 1)])
        self.assertEqual(pace.ends[1].told, ["hi"])
        pace.tick([(True, 1), (True, 1)])
        self.assertEqual(pace.ends[1].told, ["hi", "he"])

    def test_wrong_ticks_change_nothing(self):
        pace = Pace(2, 1)
        pace.put(0, "hi")
        pace.tick([(True, 2), (False, 2)])
        was = picture(pace)
        for ticks in WRONG_NUMBERS + (0, 3):
            for is_lost in (True, False):
                for wishes in ([(is_lost, ticks), (False, 1)], [(False, 1), (is_lost, ticks)],
                               [(is_lost, ticks), (True, 9)]):
                    with self.assertRaises(BadName) as caught:
                        pace.tick(wishes)
                    self.assertIs(caught.exception.name, ticks)
                    self.assertEqual(picture(pace), was)
        # The frames of the next tick aren't lost, whatever wrong ticks were told between.
        pace.tick([(True, 1), (True, 1)])
        self.assertEqual(pace.ends[1].told, ["hi"])

    def test_wishes_are_not_changed(self):
        wishes = [[True, 1], (False, 1)]
        Pace(1, 1).tick(wishes)
        self.assertEqual(wishes, [[True, 1], (False, 1)])

    def test_slowest(self):
        self.assertEqual([slowest(words, 1, 0) for words in range(8)], [0, 4, 4, 4, 8, 8, 8, 12])
        self.assertEqual([slowest(words, 5, 2) for words in (0, 1, 3, 4, 300)], [0, 16, 16, 32, 1600])


class ByHand:
    """What two ends must be told, by the words of the document."""

    def __init__(self, delay, losses):
        self.losses = losses
        self.ends = (End(), End())
        self.time = 0
        self.lost = ([], [])
        self.sent = []

    def tick(self, wishes):
        for at in (0, 1):
            is_lost, ticks = wishes[at]
            last = self.lost[at][len(self.lost[at]) - self.losses:] if len(self.lost[at]) >= self.losses else [False]
            if self.losses == 0 or (last and all(last)):
                is_lost = False
            self.lost[at].append(is_lost)
            if not is_lost:
                self.sent.append((self.time + ticks, at, self.ends[at].frames()))
        self.time += 1
        for due, at, frames in self.sent:
            if due == self.time:
                for frame in frames:
                    self.ends[1 - at].hear(1, frame)


class DrawnPaceTest(unittest.TestCase):

    def wishes(self, random, kind, delay):
        """Some wishes; of some kinds the worst that may be."""
        if kind == 0:
            return [(True, delay), (True, delay)]
        if kind == 1:
            return [(random.random() < 0.9, delay), (random.random() < 0.9, delay)]
        if kind == 2:
            return [(True, random.randint(1, delay)), (random.random() < 0.5, delay)]
        return [(random.random() < 0.5, random.randint(1, delay)) for _ in range(2)]

    def check_told(self, pace):
        for at in (0, 1):
            told, out = pace.ends[at].told, pace.ends[1 - at].out
            self.assertEqual(told, out[:len(told)])
            self.assertLessEqual(pace.ends[1 - at].answered, len(told))
        done = all(end.answered == len(end.out) == len(other.told) for end, other in (pace.ends, pace.ends[::-1]))
        self.assertEqual(pace.is_done(), done)

    def test_behind_slowest_ticks_all_is_told_and_answered(self):
        random = Random(351)
        for run in range(400):
            delay, losses = random.randint(1, 4), random.randint(0, 4)
            pace, twin, words = Pace(delay, losses), ByHand(delay, losses), 0
            for _ in range(3):
                for at in (0, 1):
                    for _ in range(random.randint(0, 8)):
                        words += 1
                        pace.put(at, "w" + str(words))
                        twin.ends[at].put("w" + str(words))
                most = max(len(end.out) - end.answered for end in pace.ends)
                ticks = slowest(most, delay, losses)
                # Words of later are put while those of now are still on their way, at times.
                for _ in range(ticks if random.random() < 0.7 else random.randint(0, ticks)):
                    wishes = self.wishes(random, run % 4, delay)
                    pace.tick(wishes)
                    twin.tick(wishes)
                    self.check_told(pace)
                    self.assertEqual([vars(end) for end in pace.ends], [vars(end) for end in twin.ends])
                    self.assertEqual(pace.time, twin.time)
            most = max(len(end.out) - end.answered for end in pace.ends)
            for _ in range(slowest(most, delay, losses)):
                pace.tick(self.wishes(random, run % 4, delay))
                self.check_told(pace)
            self.assertTrue(pace.is_done())

    def test_words_that_come_up_while_others_are_answered(self):
        random = Random(352)
        for run in range(200):
            delay, losses = random.randint(1, 3), random.randint(0, 3)
            pace = Pace(delay, losses)
            for tick in range(60):
                if random.random() < 0.3:
                    pace.put(random.randint(0, 1), tick)
                pace.tick(self.wishes(random, run % 4, delay))
                self.check_told(pace)
            most = max(len(end.out) - end.answered for end in pace.ends)
            for _ in range(slowest(most, delay, losses)):
                pace.tick(self.wishes(random, run % 4, delay))
            self.assertTrue(pace.is_done())
