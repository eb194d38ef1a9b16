"""The examples of the document, point by point, just as they stand there."""

import doctest
import unittest

EXAMPLES = '''
Point 1.
>>> from mastcalls.townshell import run_town
>>> run_town("mast a 1\\nmast b 2\\nzone hill a\\nzone dale b\\nroad dale hill\\nopen 0\\nbegin one dale\\nbegin two dale\\ngo one hill\\nseats")
['taken one', 'to one b', 'refused two down full a ways one:dale>hill two:dale>hill', 'to one a', 'at one a']

Point 8.
>>> from mastcalls.keeping import Kept
>>> from mastcalls.scenes import Call, Scene
>>> told = Kept(Scene({"a": 1, "b": 1}, {"ann": Call(1, ["a", "b"]), "ben": Call(2, ["a"]), "cat": Call(0, ["b"])}))
>>> told.lot, told.seating, told.papers
(('ann', 'ben'), {'ann': 'b', 'ben': 'a'}, {'cat': ('ann', 'ben', 'cat')})

Point 9.
>>> from mastcalls.moving import bound_by, moves_of, reseated
>>> from mastcalls.scenes import Call, Scene
>>> scene, before = Scene({"a": 1, "b": 1}, {"ann": Call(1, ["a", "b"]), "ben": Call(2, ["a"])}), {"ann": "a", "ben": "b"}
>>> late = reseated(scene, {"ann": "b", "ben": "a"}, before)
>>> late, moves_of(late, before), bound_by(scene, ("ann", "ben"), before, {"a": 1, "b": 0})
({'ann': 'b', 'ben': 'a'}, ('ann', 'ben'), 2)

Point 13.
>>> from mastcalls.cores import Core
>>> core = Core()
>>> [core.do(deed) for deed in (("mast", "a", 1), ("begin", "ann", 1), ("hear", "ann", 1, ("a",)), ("begin", "ben", 2))]
[(), (), (('seat', 'ann', 'a', 1), ('list', 'a', 1, (('ann', 1),))), ()]
>>> core.do(("hear", "ben", 2, ("a",)))
(('gone', 'ann', ('ann', 'ben')), ('seat', 'ben', 'a', 2), ('list', 'a', 2, (('ben', 2),)))

Point 16.
>>> from mastcalls.journals import Journal
>>> journal = Journal("")
>>> journal.do(("mast", "a", 1)), journal.sync(), journal.do(("begin", "ann", 1)), journal.loose
((), (), (), '1 begin ann 1 1\\n')
>>> Journal(journal.fallen(15)).many, Journal(journal.fallen(16)).many
(1, 2)

Point 18.
>>> from mastcalls.ends import End
>>> one, other = End(), End()
>>> one.put("hi")
>>> other.hear(1, one.frames()[0])
>>> other.told, other.frames(), other.epoch
(['hi'], (('frame', None, None, 1),), 1)

Point 24.
>>> from mastcalls.maps import Map
>>> from mastcalls.safety import danger_for, greatest_load
>>> plan = Map({"a": 1, "b": 2}, {"dale": ("a", "b"), "hill": ("a",)}, (("dale", "hill"),))
>>> danger_for(plan, {"ann": "dale", "ben": "dale"}, 0).ways, greatest_load(plan, 0), greatest_load(plan, 1)
({'ann': ('dale', 'hill'), 'ben': ('dale', 'hill')}, 1, 1)

Point 28.
>>> from mastcalls.tours import pieces_of, shows_many, stops_of
>>> rows = [("a",), ("a", "b"), ("a", "b"), ("b",), (), ("c", "b"), ("b",)]
>>> pieces_of(rows), shows_many(rows, [0, 3, 5])
([('a', 0, 2), ('b', 3, 3), ('b', 5, 6)], True)

Point 33.
>>> from mastcalls.councils import Council
>>> council = Council(3)
>>> [council.begin(1), council.exchange(0, [0, 1]), council.sequencers[0].add("x"), council.exchange(0, [1]), council.settled()]
[0, None, None, None, ()]
>>> [council.begin(2), council.exchange(1, [1, 2]), council.sequencers[1].row, council.exchange(1, [1, 2]), council.settled()]
[1, None, ['x'], None, ('x',)]

Point 43.
>>> from mastcalls.gathering import quick_danger
>>> from mastcalls.maps import Map
>>> plan = Map({"a": 1, "b": 1}, {"lift": ("a",), "hall": ("a", "b")}, (("lift", "hall"), ("hall", "lift")))
>>> places = {"ann": "hall", "ben": "hall"}
>>> [quick_danger(plan, {"lift": 1}, places, 0), quick_danger(plan, {}, places, 0).masts]
[None, ('a',)]
'''


class DocumentTest(unittest.TestCase):

    def test_examples(self):
        many = 0
        for block in EXAMPLES.split("Point ")[1:]:
            examples = doctest.DocTestParser().get_doctest(block, {}, "point " + block.split(".")[0], None, None)
            told = doctest.DocTestRunner().run(examples)
            self.assertEqual(told.failed, 0, block)
            many += told.attempted
        self.assertEqual(many, 40)
