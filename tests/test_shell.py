"""[20]: scripts for a core."""

import unittest
from random import Random

from mastcalls.capacity import lacking, spare, without, worst_falls
from mastcalls.cores import Core
from mastcalls.deeds import deed_line
from mastcalls.errors import BadName, BadText
from mastcalls.shell import run_script
from tests.rows import Row

START = "mast a 1\nmast b 2\nbegin ann 1\nhear ann 1 a b\ndown b\nbegin ben 2\nend ben"

# A line behind START, and its first word that can't stand there.
WRONG = [
    ("", 0), (" ", 0), ("seat", 0), ("Seats", 0), ("lack a", 0), ("no", 0), ("at ann a", 0), (" seats", 0),
    ("seats ", 1), ("seats a", 1), ("seats a b", 1),
    ("lacks b", 1), ("lacks q", 1), ("lacks ", 1), ("lacks a b", 2), ("lacks a ", 2), ("lacks a a Q b", 3),
    ("lacks  a", 1), ("lacks ann", 1),
    ("worst", 1), ("worst 2", 1), ("worst 3", 1), ("worst x", 1), ("worst 01", 1), ("worst -1", 1), ("worst ", 1),
    ("worst +1", 1), ("worst 0000000000001", 1), ("worst 1 ", 2), ("worst 1 1", 2), ("worst x y", 2),
    ("worst 9 1 2", 2), ("worst \u0661", 1),
    ("spare", 1), ("spare b", 1), ("spare q", 1), ("spare ann", 1), ("spare ", 1), ("spare a a", 2),
    ("spare b b", 2), ("spare q  ", 2),
    ("ticks", 1), ("ticks cat", 1), ("ticks a", 1), ("ticks ", 1), ("ticks ann ann", 2), ("ticks cat ann", 2),
    ("mast", 1), ("mast a", 2), ("mast A 1", 1), ("mast a 01", 2), ("mast c 1 1", 3), ("mast A 1 1", 1),
    ("down", 1), ("down a b", 2), ("up B", 1), ("begin Ann x", 1), ("begin cat x 1", 2), ("begin cat 1 x", 3),
    ("hear ann", 2), ("hear ann x", 2), ("hear ann 2 a B c", 4), ("end", 1), ("end ann 1", 2), ("tick 1", 1),
    ("tick ", 1),
]


class ScriptTest(unittest.TestCase):

    def test_each_line_that_can_come(self):
        script = ["mast a 1", "mast b 0", "begin ann 1", "hear ann 1 a b", "tick", "seats", "ticks ann", "begin ben 2",
                  "spare a", "spare b", "worst 0", "worst 1", "worst 2", "hear ben 1 a", "seats", "lacks", "ticks ann",
                  "hear ben 1", "hear ben 2", "seats", "lacks", "hear ben 3 b", "begin cat 0", "hear cat 1 a b"]
        lines = ["seat ann a 1", "list a 1 ann:1", "at ann a", "ticks ann 1", "spare a 0", "spare b 0", "worst 0",
                 "worst 1 a", "worst 1 a", "gone ann by ann ben", "seat ben a 2", "list a 2 ben:2", "at ben a",
                 "ticks ann 1", "rest ben", "list a 3", "gone ben by ben", "seat cat a 3", "list a 4 cat:3"]
        self.assertEqual(run_script("\n".join(script)), lines)

    def test_nothing_comes(self):
        self.assertEqual(run_script("seats"), [])
        self.assertEqual(run_script("lacks"), [])
        self.assertEqual(run_script("tick\ntick"), [])
        self.assertEqual(run_script("worst 0"), ["worst 0"])

    def test_lacks_without_masts(self):
        script = "mast a 1\nmast b 1\nbegin ann 1\nhear ann 1 a b\nbegin ben 1\nhear ben 1 a b"
        came = run_script(script)
        self.assertEqual(run_script(script + "\nlacks")[len(came):], [])
        self.assertEqual(run_script(script + "\nlacks b")[len(came):], ["lacks a 1"])
        self.assertEqual(run_script(script + "\nlacks a")[len(came):], ["lacks b 1"])
        self.assertEqual(run_script(script + "\nlacks a a")[len(came):], ["lacks b 1"])
        self.assertEqual(run_script(script + "\nlacks a b")[len(came):], [])

    def test_names_that_are_words_of_questions(self):
        script = ("mast lacks 0\nmast b 1\nbegin worst 1\nhear worst 0 lacks b\nlacks\nlacks b\nlacks lacks\n"
                  "spare lacks\nticks worst\nseats")
        self.assertEqual(run_script(script), ["seat worst b 1", "list b 1 worst:1", "lacks lacks 1", "spare lacks 0",
                                              "ticks worst 0", "at worst b"])

    def test_deeds_that_are_barred(self):
        for line in ("mast a 1", "mast c 1001", "mast c 999999999999", "down b", "down q", "up a", "up q",
                     "begin ann 1", "begin ben 1", "begin cat 1001", "hear cat 1 a", "hear ben 1", "hear ann 2 a q",
                     "hear ann 1 q", "end ben", "end cat"):
            came = run_script(START + "\n" + line + "\nseats")
            self.assertEqual(came, run_script(START) + ["no " + line, "at ann a"])

    def test_calls_that_ended_or_were_given_up_have_ticks(self):
        script = START + "\ntick\ntick\nbegin cat 5\nhear cat 0 a\ntick\nend cat"
        came = run_script(script + "\nticks ann\nticks ben\nticks cat")
        self.assertEqual(came[-3:], ["ticks ann 2", "ticks ben 0", "ticks cat 1"])

    def test_the_first_word_that_cannot_stand_there(self):
        for row, word in WRONG:
            with self.assertRaises(BadText, msg=row) as caught:
                run_script(START + "\n" + row + "\nwrong line")
            self.assertEqual((caught.exception.line, caught.exception.word), (7, word), row)

    def test_the_first_line_that_is_wrong(self):
        for text, line, word in (("", 0, 0), ("\n", 0, 0), ("tick\n", 1, 0), ("tick\n\ntick", 1, 0),
                                 ("lacks a\nx", 0, 1), ("mast a 1\nspare b\nspare", 1, 1),
                                 ("mast a 1\nmast a 1\nmast b 1001\ntick x", 3, 1), ("tick\r\ntick", 0, 0),
                                 ("worst 1\nmast a 1", 0, 1)):
            with self.assertRaises(BadText, msg=text) as caught:
                run_script(text)
            self.assertEqual((caught.exception.line, caught.exception.word), (line, word), text)


class DrawnScriptTest(unittest.TestCase):
    """Scripts of deeds and questions, held against a core that is asked."""

    def event_words(self, event):
        word, name, rest = event[0], event[1], event[2:]
        if word == "gone":
            return [word, name, "by", *rest[0]]
        if word == "list":
            return [word, name, str(rest[0])] + [call + ":" + str(epoch) for call, epoch in rest[1]]
        return [word, name] + [str(part) for part in rest]

    def deed_lines(self, core, deed):
        try:
            return [" ".join(self.event_words(event)) for event in core.do(deed)]
        except BadName:
            return ["no " + deed_line(deed)]

    def question(self, random, core):
        """A question, and its answer."""
        scene = core.present()
        up = list(scene.channels)
        calls = list(core.lines) + list(core.gone)
        word = random.choice(["seats", "lacks", "worst"] + ["spare"] * bool(up) + ["ticks"] * bool(calls))
        if word == "seats":
            return word, ["at " + call + " " + mast for call, mast in sorted(core.seats_now().items())]
        if word == "lacks":
            masts = [random.choice(up) for _ in range(random.randint(0, 2)) if up]
            lacks = lacking(without(scene, tuple(masts)))
            return " ".join([word] + masts), ["lacks " + mast + " " + str(lacks[mast]) for mast in sorted(lacks)]
        if word == "worst":
            most = random.randint(0, len(up))
            many, falls = worst_falls(scene, most)
            return word + " " + str(most), [" ".join(("worst", str(many)) + falls)]
        if word == "spare":
            mast = random.choice(up)
            return word + " " + mast, ["spare " + mast + " " + str(spare(scene, mast))]
        call = random.choice(calls)
        return word + " " + call, ["ticks " + call + " " + str(core.ticks_of(call))]

    def wrong_deed(self, random, core):
        """A deed whose line can be read, but that may well be barred."""
        names = list(core.lines) + list(core.gone) + ["zed"]
        masts = list(core.channels) + ["q"]
        return random.choice([("mast", random.choice(masts), 1001), ("down", random.choice(masts)),
                              ("up", random.choice(masts)), ("begin", random.choice(names), 2000),
                              ("end", random.choice(names)), ("hear", random.choice(names), 0, ("q",))])

    def test_drawn_scripts(self):
        random = Random(201)
        for seed in range(120):
            row, core, script, lines = Row(seed), Core(), [], []
            for _ in range(40):
                kind = random.random()
                if kind < 0.4:
                    line, came = self.question(random, core)
                else:
                    deed = self.wrong_deed(random, core) if kind < 0.5 else row.next_deed(core)
                    line, came = deed_line(deed), self.deed_lines(core, deed)
                script.append(line)
                lines.extend(came)
            self.assertEqual(run_script("\n".join(script)), lines)
            self.assertEqual(run_script("\n".join(script)), lines)
