"""[38]: a town's journal, and falls at any cut."""

import unittest
from random import Random

from mastcalls.errors import BadCut, BadName
from mastcalls.maps import Map
from mastcalls.scenes import Scene, wrong_seating
from mastcalls.townjournals import TownJournal, do_in, town_deeds, town_line
from mastcalls.towns import Town
from tests.drawn import copy_of, drawn_map, first_falls

PLAN = Map({"a": 1, "b": 2}, {"dale": ("b",), "hill": ("a",)}, (("dale", "hill"),))
DEEDS = (("begin", "one", "dale"), ("go", "one", "hill"), ("end", "one"))
TEXT = "0 begin one dale 0\n1 go one hill 1\n2 end one 2\n"
NO_DEEDS = [None, "seats", (), 7, ["end", "one"], ("seats",), ("end",), ("end", "one", "one"), ("begin", "six"),
            ("begin", "six", "dale", 0), ("go", "one"), ("fall",), ("rise", "a", "b"), ("tick",), ("mast", "c", 1),
            (1, "one"), (["end"], "one"), ("down", "a"), ("hear", "one", "dale"), {"end": "one"}, (None,)]
BARRED = [(("begin", "One", "dale"), "One"), (("begin", "one", "dale"), "one"), (("begin", "six", "q"), "q"),
          (("go", "six", "hill"), "six"), (("go", "one", "dale"), "dale"), (("end", "six"), "six"),
          (("fall", "q"), "q"), (("rise", "b"), "b"), (("end", ["one"]), ["one"]), (("fall", None), None)]


def state(town):
    """What a fall must bring back of a town."""
    return list(town.places.items()), town.down, town.most, town.plan


def picture(journal):
    """All that can be seen of a journal."""
    town = journal.town
    return state(town), list(town.seating.items()), town.refused, town.moved, journal.text, journal.loose, journal.many


class DoInTest(unittest.TestCase):

    def test_as_the_town_does(self):
        town, twin = Town(PLAN, 1), Town(PLAN, 1)
        for deed in (("begin", "one", "dale"), ("fall", "b"), ("rise", "b"), ("begin", "two", "hill"),
                     ("go", "one", "hill"), ("fall", "a"), ("rise", "a"), ("end", "one")):
            self.assertEqual(do_in(town, deed), getattr(twin, deed[0])(*deed[1:]))
            self.assertEqual((state(town), town.seating, town.moved), (state(twin), twin.seating, twin.moved))
        self.assertEqual((twin.places, twin.refused), ({}, 1))

    def test_what_is_no_deed(self):
        town = Town(PLAN, 1)
        do_in(town, DEEDS[0])
        for deed in NO_DEEDS:
            with self.assertRaises(BadName, msg=deed) as caught:
                do_in(town, deed)
            self.assertIs(caught.exception.name, deed)
            self.assertEqual(town.places, {"one": "dale"})

    def test_what_cannot_be_done(self):
        town = Town(PLAN, 0)
        do_in(town, DEEDS[0])
        for deed, name in BARRED:
            with self.assertRaises(BadName, msg=deed) as caught:
                do_in(town, deed)
            self.assertEqual((caught.exception.name, town.places), (name, {"one": "dale"}))


class TextTest(unittest.TestCase):

    def test_town_line(self):
        self.assertEqual(town_line(12, ("go", "one", "hill")), "12 go one hill 12")
        self.assertEqual("".join(town_line(at, deed) + "\n" for at, deed in enumerate(DEEDS)), TEXT)

    def test_every_beginning_of_a_text(self):
        for signs in range(len(TEXT) + 1):
            self.assertEqual(town_deeds(TEXT[:signs]),
                             (DEEDS[:TEXT[:signs].count("\n")], TEXT[:signs].rfind("\n") + 1))

    def test_the_longest_beginning_of_whole_lines(self):
        for wrong in ("1 end one 1", "0 end one 1", "1 end one 0", "0 end one", "end one 0", "0 0", "0", "", " ",
                      "0 end one 0 ", " 0 end one 0", "00 end one 00", "0 end 0", "0 end one two 0", "0 seats 0",
                      "0 begin one 0", "0 go one hill dale 0", "0 tick 0", "a end one a", "0 End one 0",
                      "0 end One 0", "0 end  0", "0 begin one Hill 0", "0 begin A hill 0"):
            self.assertEqual(town_deeds(wrong + "\n"), ((), 0), wrong)
            self.assertEqual(town_deeds(wrong + "\n0 end one 0\n"), ((), 0), wrong)
            after = "0 fall a 0\n" + wrong.replace("0", "2").replace("1", "0") + "\n2 fall a 2\n"
            self.assertEqual(town_deeds(after), ((("fall", "a"),), 11), wrong)
        self.assertEqual(town_deeds(""), ((), 0))

    def test_numbers_of_more_figures(self):
        text = "".join(town_line(at, ("fall", "a")) + "\n" for at in range(120))
        self.assertEqual(town_deeds(text), ((("fall", "a"),) * 120, len(text)))


class TownJournalTest(unittest.TestCase):

    def test_a_new_one(self):
        journal = TownJournal(PLAN, 1, "")
        self.assertEqual((journal.text, journal.loose, journal.many, journal.fallen(0)), ("", "", 0, ""))
        self.assertEqual(state(journal.town), ([], (), 1, PLAN))
        self.assertIsNone(journal.sync())

    def test_written_loosely_then_settled(self):
        journal = TownJournal(PLAN, 0, "")
        self.assertEqual([journal.do(deed) for deed in DEEDS], [None, ("one",), ()])
        self.assertEqual((journal.text, journal.loose, journal.many), ("", TEXT, 3))
        self.assertIsNone(journal.sync())
        self.assertEqual((journal.text, journal.loose, journal.many), (TEXT, "", 3))
        journal.do(("begin", "two", "hill"))
        self.assertEqual((journal.text, journal.loose, journal.many), (TEXT, "3 begin two hill 3\n", 4))

    def test_what_is_refused_or_raises_is_not_written(self):
        journal = TownJournal(PLAN, 0, "")
        journal.do(DEEDS[0])
        danger = journal.do(("begin", "two", "dale"))
        self.assertEqual((danger.masts, danger.ways), (("a",), {"one": ("dale", "hill"), "two": ("dale", "hill")}))
        self.assertEqual((journal.loose, journal.many, journal.town.refused), ("0 begin one dale 0\n", 1, 1))
        was = picture(journal)
        for deed, name in BARRED + [(deed, deed) for deed in NO_DEEDS]:
            with self.assertRaises(BadName, msg=deed) as caught:
                journal.do(deed)
            self.assertEqual((caught.exception.name, picture(journal)), (name, was))

    def test_what_comes_up(self):
        journal = TownJournal(PLAN, 0, TEXT[:35] + "2 end on")
        self.assertEqual((journal.text, journal.loose, journal.many), (TEXT[:35], "", 2))
        self.assertEqual((journal.town.places, journal.town.seating), ({"one": "hill"}, {"one": "a"}))
        journal.do(("end", "one"))
        self.assertEqual(journal.loose, "2 end one 2\n")

    def test_bad_cuts(self):
        journal = TownJournal(PLAN, 0, "")
        for deed in DEEDS:
            was = picture(journal)
            for cut in (-1, len(journal.loose) + 1, True, False, None, "0", 0.0):
                with self.assertRaises(BadCut) as caught:
                    journal.fallen(cut)
                self.assertIs(caught.exception.place, cut)
                self.assertEqual(picture(journal), was)
            journal.do(deed)
        self.assertEqual(journal.fallen(0) + journal.fallen(len(TEXT)), TEXT)


class DrawnTownJournalTest(unittest.TestCase):

    def deed(self, random, town):
        """Some deed, which may well be refused or barred."""
        name = random.choice(["c0", "c1", "c2", "c3", "c4", "C"])
        zone = random.choice(list(town.plan.heard) + ["q"])
        mast = random.choice(list(town.plan.channels) + ["q"])
        if town.places and random.random() < 0.4:
            name = random.choice(list(town.places))
            return random.choice([("go", name, random.choice(town.plan.next_zones(town.places[name]) + [zone]))] * 2 +
                                 [("end", name)])
        if town.down and random.random() < 0.3:
            mast = random.choice(town.down)
        return random.choice([("begin", name, zone)] * 3 + [("fall", mast), ("rise", mast)])

    def town_behind(self, plan, most, deeds):
        """A town in which deeds were done."""
        town = Town(plan, most)
        for deed in deeds:
            getattr(town, deed[0])(*deed[1:])
        return town

    def look_at_all_cuts(self, journal, done, settled):
        """What comes up behind each fall that there may be."""
        plan, most = journal.town.plan, journal.town.most
        was = picture(journal)
        there = set(self.town_behind(plan, most, done[:settled]).places)
        for cut in range(len(journal.loose) + 1):
            many = settled + journal.loose[:cut].count("\n")
            text = journal.fallen(cut)
            other = TownJournal(plan, most, text)
            self.assertEqual((other.many, other.loose), (many, ""))
            self.assertEqual(other.text, "".join(town_line(at, done[at]) + "\n" for at in range(many)))
            self.assertEqual(state(other.town), state(self.town_behind(plan, most, done[:many])))
            ended = {deed[1] for deed in done[settled:many] if deed[0] == "end"}
            self.assertTrue(there - ended <= set(other.town.places))
            if cut in (0, len(journal.loose)) or journal.loose[cut - 1] == "\n":
                self.check_town(other.town)
        self.assertEqual(picture(journal), was)

    def check_town(self, town):
        """Nobody who is heard is without a seat, and nobody can ever be."""
        scene = town.scene()
        self.assertEqual(scene, Scene(scene.channels, scene.calls))
        self.assertEqual(list(town.seating), list(scene.calls))
        self.assertIsNone(wrong_seating(scene, town.seating))
        self.assertTrue(town.is_safe())
        self.assertIsNone(first_falls(town.plan, town.places, town.most))

    def test_drawn_towns(self):
        kinds = {}
        for seed in range(60):
            random = Random(3800 + seed)
            plan = drawn_map(random, most_masts=4, most_channels=3, most_roads=8)
            twin_plan = copy_of(plan)
            most = random.randint(0, 2)
            journal, done, settled = TownJournal(plan, most, ""), [], 0
            twin = Town(twin_plan, most)
            for _ in range(30):
                kind = self.step(journal, twin, self.deed(random, journal.town), done)
                kinds[kind] = kinds.get(kind, 0) + 1
                draw = random.random()
                if draw < 0.15:
                    journal.sync()
                    settled = len(done)
                elif draw < 0.3:
                    self.look_at_all_cuts(journal, done, settled)
                    cut = random.randint(0, len(journal.loose))
                    journal = TownJournal(plan, most, journal.fallen(cut))
                    done = done[:journal.many]
                    settled = len(done)
                    twin = self.town_behind(twin_plan, most, done)
            self.assertEqual(plan, twin_plan)
        for kind in ("barred", "refused", "begin", "go", "end", "fall", "rise"):
            self.assertGreater(kinds[kind], 20, kinds)

    def step(self, journal, twin, deed, done):
        """Does a deed with the journal and with a town; which kind of deed it was."""
        was = picture(journal)
        try:
            told = getattr(twin, deed[0])(*deed[1:])
        except BadName as wrong:
            with self.assertRaises(BadName) as caught:
                journal.do(deed)
            self.assertEqual((caught.exception.name, picture(journal)), (wrong.name, was))
            return "barred"
        self.assertEqual(journal.do(deed), told)
        self.assertEqual(state(journal.town), state(twin))
        if deed[0] == "begin" and told is not None:
            self.assertEqual(picture(journal)[4:], was[4:])
            return "refused"
        self.assertEqual((journal.many, journal.text), (was[6] + 1, was[4]))
        self.assertEqual(journal.loose, was[5] + town_line(was[6], deed) + "\n")
        done.append(deed)
        return deed[0]
