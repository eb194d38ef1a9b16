"""[18]: ends of calls."""

import unittest
from random import Random

from mastcalls.ends import End


class EndTest(unittest.TestCase):

    def test_the_example(self):
        one, other = End(), End()
        one.put("hi")
        other.hear(1, one.frames()[0])
        self.assertEqual((other.told, other.frames(), other.epoch), (["hi"], (("frame", None, None, 1),), 1))

    def test_at_first(self):
        end = End()
        self.assertEqual((end.out, end.answered, end.told, end.epoch), ([], 0, [], 0))
        self.assertEqual(end.frames(), (("frame", None, None, 0),))

    def test_the_first_three_that_are_not_answered(self):
        end = End()
        for word in ("v", "w", "x", "y", "z"):
            end.put(word)
        self.assertEqual(end.out, ["v", "w", "x", "y", "z"])
        self.assertEqual(end.frames(), (("frame", 0, "v", 0), ("frame", 1, "w", 0), ("frame", 2, "x", 0)))
        end.hear(1, ("frame", 0, "hi", 3))
        self.assertEqual(end.frames(), (("frame", 3, "y", 1), ("frame", 4, "z", 1)))
        end.hear(1, ("frame", None, None, 5))
        self.assertEqual(end.frames(), (("frame", None, None, 1),))
        end.put("u")
        self.assertEqual(end.frames(), (("frame", 5, "u", 1),))

    def test_only_the_next_word_is_told(self):
        end = End()
        end.hear(0, ("frame", 1, "b", 0))
        self.assertEqual(end.told, [])
        end.hear(0, ("frame", 0, "a", 0))
        end.hear(0, ("frame", 0, "a", 0))
        end.hear(0, ("frame", 2, "c", 0))
        end.hear(0, ("frame", None, None, 0))
        end.hear(0, ("frame", 1, "b", 0))
        self.assertEqual(end.told, ["a", "b"])

    def test_older_epochs_are_not_heard(self):
        end = End()
        end.put("x")
        end.hear(5, ("frame", 0, "a", 0))
        end.hear(4, ("frame", 1, "b", 1))
        self.assertEqual((end.told, end.answered, end.epoch), (["a"], 0, 5))
        end.hear(5, ("frame", 1, "b", 0))
        self.assertEqual((end.told, end.answered, end.epoch), (["a", "b"], 0, 5))
        end.hear(9, ("frame", 7, "z", 1))
        self.assertEqual((end.told, end.answered, end.epoch), (["a", "b"], 1, 9))

    def test_answers_only_rise_and_never_beyond_all_words(self):
        end = End()
        for word in ("x", "y"):
            end.put(word)
        end.hear(1, ("frame", None, None, 3))
        self.assertEqual(end.answered, 0)
        end.hear(1, ("frame", None, None, 2))
        self.assertEqual(end.answered, 2)
        end.hear(1, ("frame", None, None, 1))
        self.assertEqual(end.answered, 2)

    def test_one_that_is_told_once_and_in_order(self):
        heard = 0
        for seed in range(200):
            random = Random(seed)
            ends, letters = (End(), End()), []
            words = 0
            for _ in range(120):
                draw, at = random.random(), random.randint(0, 1)
                if draw < 0.15:
                    ends[at].put("w" + str(words))
                    words += 1
                elif draw < 0.4:
                    letters.extend((1 - at, random.choice([0, 1, 1, 2]), frame) for frame in ends[at].frames())
                elif draw < 0.9 and letters:
                    place = random.randrange(len(letters))
                    to, epoch, frame = letters[place] if random.random() < 0.3 else letters.pop(place)
                    ends[to].hear(epoch, frame)
                for one, other in (ends, ends[::-1]):
                    self.assertEqual(other.told, one.out[:len(other.told)])
                    self.assertLessEqual(one.answered, len(other.told))
            heard += len(ends[0].told) + len(ends[1].told)
            for _ in range(2 * words + 2):
                for at in (0, 1):
                    for frame in ends[at].frames():
                        ends[1 - at].hear(3, frame)
            self.assertEqual((ends[0].told, ends[1].told), (ends[1].out, ends[0].out))
            self.assertEqual([end.answered for end in ends], [len(end.out) for end in ends])
        self.assertGreater(heard, 1000)
