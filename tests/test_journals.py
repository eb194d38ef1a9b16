"""[16]: the journal, and falls at any cut."""

import unittest

from mastcalls.cores import core_of
from mastcalls.errors import BadCut, BadName
from mastcalls.journals import Journal, deeds_in, whole_line
from tests.rows import Row

DEEDS = (("mast", "a", 1), ("begin", "ann", 1), ("hear", "ann", 10, ("a",)), ("tick",), ("hear", "ann", 11, ()))
TEXT = "0 mast a 1 0\n1 begin ann 1 1\n2 hear ann 10 a 2\n3 tick 3\n4 hear ann 11 4\n"


class TextTest(unittest.TestCase):

    def test_whole_line(self):
        self.assertEqual(whole_line(12, ("hear", "ann", 3, ("b", "a"))), "12 hear ann 3 b a 12")
        self.assertEqual("".join(whole_line(at, deed) + "\n" for at, deed in enumerate(DEEDS)), TEXT)

    def test_every_beginning_of_a_text(self):
        for signs in range(len(TEXT) + 1):
            many = TEXT[:signs].count("\n")
            whole = TEXT[:signs].rfind("\n") + 1
            self.assertEqual(deeds_in(TEXT[:signs]), (DEEDS[:many], whole))

    def test_the_longest_beginning_of_whole_lines(self):
        for wrong in ("1 tick 1", "0 tick 1", "1 tick 0", "0 tick", "tick 0", "0 0", "0", "", "0 tick 0 ", " 0 tick 0",
                      "0  tick 0", "00 tick 00", "0 tock 0", "0 mast A 1 0", "0 mast a 0", "0 tick tick 0",
                      "0 mast a 01 0", "0 tick 0\r", "a tick a", "0 mast a 1 b 0"):
            self.assertEqual(deeds_in(wrong + "\n"), ((), 0), wrong)
            self.assertEqual(deeds_in(wrong + "\n0 tick 0\n"), ((), 0), wrong)
            after = "0 tick 0\n" + wrong.replace("0", "2").replace("1", "0") + "\n2 tick 2\n"
            self.assertEqual(deeds_in(after), ((("tick",),), 9), wrong)
        self.assertEqual(deeds_in(""), ((), 0))
        self.assertEqual(deeds_in("0 mast a 5000 0\n"), ((("mast", "a", 5000),), 16))
        self.assertEqual(deeds_in("0 tick 0\x0c1 tick 1\n"), ((), 0))

    def test_numbers_of_more_figures(self):
        text = "".join(whole_line(at, ("tick",)) + "\n" for at in range(120))
        self.assertEqual(deeds_in(text), ((("tick",),) * 120, len(text)))


class JournalTest(unittest.TestCase):

    def test_the_example(self):
        journal = Journal("")
        told = (journal.do(("mast", "a", 1)), journal.sync(), journal.do(("begin", "ann", 1)), journal.loose)
        self.assertEqual(told, ((), (), (), "1 begin ann 1 1\n"))
        self.assertEqual((Journal(journal.fallen(15)).many, Journal(journal.fallen(16)).many), (1, 2))

    def test_empty(self):
        journal = Journal("")
        self.assertEqual((journal.text, journal.loose, journal.many, journal.all_lists()), ("", "", 0, ()))
        self.assertEqual(journal.core.value(), core_of(()).value())
        self.assertEqual((journal.sync(), journal.fallen(0)), ((), ""))

    def test_lists_wait_until_all_is_settled(self):
        journal = Journal("")
        for deed in DEEDS[:2]:
            journal.do(deed)
        events = journal.do(DEEDS[2])
        first, second = ("list", "a", 1, (("ann", 1),)), ("list", "a", 2, ())
        self.assertEqual(events, (("seat", "ann", "a", 1), first))
        self.assertEqual(journal.all_lists(), ())
        self.assertEqual(journal.do(DEEDS[3]), ())
        self.assertEqual(journal.do(DEEDS[4]), (("rest", "ann"), second))
        self.assertEqual((journal.text, journal.loose, journal.many), ("", TEXT, 5))
        self.assertEqual(journal.sync(), (first, second))
        self.assertEqual((journal.text, journal.loose, journal.many), (TEXT, "", 5))
        self.assertEqual(journal.sync(), ())
        self.assertEqual(journal.all_lists(), (second,))
        journal.do(("mast", "b", 1))
        self.assertEqual(journal.all_lists(), ())
        journal.sync()
        self.assertEqual(journal.all_lists(), (second, ("list", "b", 0, ())))

    def test_refused_deeds_are_not_written(self):
        journal = Journal("")
        journal.do(("tick",))
        for deed in (("down", "a"), ("mast", "A", 1), "tick", ("begin", "x", 1001)):
            with self.assertRaises(BadName):
                journal.do(deed)
        self.assertEqual((journal.text, journal.loose, journal.many), ("", "0 tick 0\n", 1))

    def test_what_comes_up(self):
        journal = Journal(TEXT + "5 tick")
        self.assertEqual((journal.text, journal.loose, journal.many), (TEXT, "", 5))
        self.assertEqual(journal.core.value(), core_of(DEEDS).value())
        self.assertEqual(journal.all_lists(), (("list", "a", 2, ()),))
        journal.do(("tick",))
        self.assertEqual(journal.loose, "5 tick 5\n")

    def test_bad_cuts(self):
        journal = Journal("")
        journal.do(("tick",))
        journal.sync()
        for loose in (0, 9):
            for cut in (-1, loose + 1, True, False, None, "0", 0.0):
                with self.assertRaises(BadCut) as caught:
                    journal.fallen(cut)
                self.assertIs(caught.exception.place, cut)
            journal.do(("tick",))

    def test_a_fall_leaves_the_journal_as_it_is(self):
        journal = Journal("")
        for deed in DEEDS:
            journal.do(deed)
        for cut in range(len(TEXT) + 1):
            self.assertEqual(journal.fallen(cut), TEXT[:cut])
        self.assertEqual((journal.text, journal.loose, journal.many), ("", TEXT, 5))


class FallsTest(unittest.TestCase):

    def look_at_all_cuts(self, journal, done, settled):
        for cut in range(len(journal.loose) + 1):
            other = Journal(journal.fallen(cut))
            many = settled + journal.loose[:cut].count("\n")
            self.assertEqual((other.many, other.loose), (many, ""))
            self.assertEqual(other.text, "".join(whole_line(at, done[at]) + "\n" for at in range(many)))
            self.assertEqual(other.core.value(), core_of(done[:many]).value())
            self.assertEqual(other.sync(), ())

    def test_all_cuts_and_numbers_that_go_on_above_all_that_were_sent(self):
        for seed in range(60):
            row = Row(seed)
            journal, done, settled = Journal(""), [], 0
            sent, epochs = {}, {}
            for _ in range(50):
                deed = row.next_deed(journal.core)
                journal.do(deed)
                done.append(deed)
                draw = row.random.random()
                if draw < 0.2:
                    for event in journal.sync() + journal.all_lists():
                        self.check_list(event, sent, epochs)
                    settled = len(done)
                elif draw < 0.35:
                    self.look_at_all_cuts(journal, done, settled)
                    journal = Journal(journal.fallen(row.random.randint(0, len(journal.loose))))
                    done = done[:journal.many]
                    settled = len(done)
                    self.assertGreaterEqual(journal.core.number, max([0] + [number for _, number in sent]))
                    self.assertGreaterEqual(journal.core.epoch, max([0] + list(epochs)))
                    for event in journal.all_lists():
                        self.check_list(event, sent, epochs)

    def check_list(self, event, sent, epochs):
        """A number always has one list, an epoch one call on one mast."""
        word, mast, number, rows = event
        self.assertEqual((word, sent.setdefault((mast, number), rows)), ("list", rows))
        if number:
            self.assertEqual(len([at for at in sent if at[1] == number]), 1)
        for call, epoch in rows:
            self.assertEqual(epochs.setdefault(epoch, (call, mast)), (call, mast))
