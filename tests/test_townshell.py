"""[1], [26]: maps as lines, scripts for a town."""

import unittest
from random import Random

from mastcalls.errors import BadName, BadText
from mastcalls.maps import Map
from mastcalls.safety import greatest_load
from mastcalls.towns import Town
from mastcalls.townshell import read_map, run_town, write_map
from tests.drawn import copy_of, drawn_map, drawn_maps

START = "mast a 1\nzone hill a\nmast hill 2\nzone dale"

# A line behind START, and its first word that can't stand there.
WRONG = [
    ("", 0), (" ", 0), ("masts b 1", 0), ("Mast b 1", 0), ("begin ann hill", 0), ("b 1", 0), ("open 1", 0),
    ("mast", 1), ("mast ", 1), ("mast B 1", 1), ("mast a 1", 1), ("mast hill 1", 1), ("mast abcdefghi 1", 1),
    ("mast  b 1", 1), ("mast b", 2), ("mast b ", 2), ("mast b x", 2), ("mast b 01", 2), ("mast b -1", 2),
    ("mast b 1234567890123", 2), ("mast b 1 ", 3), ("mast b 1 1", 3), ("mast b x 1", 2), ("mast a x 1", 1),
    ("zone", 1), ("zone ", 1), ("zone hill", 1), ("zone dale a", 1), ("zone Dale", 1), ("zone lake b", 2),
    ("zone lake a b", 3), ("zone lake a ", 3), ("zone lake a dale", 3), ("zone lake ", 2), ("zone lake A", 2),
    ("zone lake b b", 2),
    ("road", 1), ("road hill", 2), ("road a hill", 1), ("road hill a", 2), ("road lake lake", 1), ("road hill ", 2),
    ("road hill dale lake", 3), ("road hill dale ", 3), ("road hill lake lake", 2), ("road Hill dale", 1),
]


class WriteTest(unittest.TestCase):

    def test_some(self):
        plan = Map({"b": 2, "a": 1000}, {"z": ("b", "a"), "y": (), "b": ("a",)}, [("z", "y"), ("b", "b"), ("y", "z")])
        self.assertEqual(write_map(plan), "mast a 1000\nmast b 2\nzone b a\nzone y\nzone z a b\n"
                                          "road b b\nroad y z\nroad z y")
        self.assertEqual(write_map(Map({}, {}, ())), "")
        self.assertEqual(write_map(Map({}, {"x": ()}, ())), "zone x")

    def test_there_and_back(self):
        for plan in drawn_maps(300, 261, most_channels=1000):
            was = copy_of(plan)
            text = write_map(plan)
            self.assertEqual(read_map(text), plan)
            self.assertEqual(write_map(read_map(text)), text)
            self.assertEqual(plan, was)

    def test_lines_in_any_order_that_may_be(self):
        random = Random(262)
        for plan in drawn_maps(300, 263):
            waiting = [line for line in write_map(plan).split("\n") if line]
            lines, masts, zones = [], [], []
            while waiting:
                may_be = []
                for line in waiting:
                    words = line.split(" ")
                    needed = {"mast": [], "zone": words[2:], "road": words[1:]}[words[0]]
                    known = zones if words[0] == "road" else masts
                    if all(name in known for name in needed):
                        may_be.append(line)
                line = random.choice(may_be)
                waiting.remove(line)
                lines.append(line)
                if line.startswith("mast"):
                    masts.append(line.split(" ")[1])
                if line.startswith("zone"):
                    zones.append(line.split(" ")[1])
            self.assertEqual(read_map("\n".join(lines)), plan)


class ReadTest(unittest.TestCase):

    def wrong(self, function, text):
        with self.assertRaises(BadText, msg=text) as caught:
            function(text)
        return caught.exception.line, caught.exception.word

    def test_a_mast_and_a_zone_may_have_one_name(self):
        self.assertEqual(read_map(START), Map({"a": 1, "hill": 2}, {"hill": ("a",), "dale": ()}, ()))
        self.assertEqual(read_map(""), Map({}, {}, ()))

    def test_masts_of_a_zone_in_any_order_and_a_road_twice(self):
        text = START + "\nzone lake hill a\nroad lake dale\nroad lake dale\nroad lake lake"
        plan = Map({"a": 1, "hill": 2}, {"hill": ("a",), "dale": (), "lake": ("a", "hill")},
                   (("lake", "dale"), ("lake", "lake")))
        self.assertEqual(read_map(text), plan)

    def test_the_first_word_that_cannot_stand_there(self):
        for row, word in WRONG:
            self.assertEqual(self.wrong(read_map, START + "\n" + row), (4, word), row)
            self.assertEqual(self.wrong(read_map, START + "\n" + row + "\n" + row), (4, word), row)

    def test_the_first_line_that_is_wrong(self):
        for text, place in (("\n", (0, 0)), ("mast a 1\n", (1, 0)), ("zone z a\nmast a 1", (0, 2)),
                            ("road z z\nzone z", (0, 1)), ("mast a 1\n\nzone Z", (1, 0))):
            self.assertEqual(self.wrong(read_map, text), place)

    def test_what_is_no_map_is_told_behind_its_last_line(self):
        for row in ("mast b 1001", "mast b 999999999999", "zone lake a a", "zone lake a hill a"):
            self.assertEqual(self.wrong(read_map, START + "\n" + row), (5, 0))
            if row.startswith("mast"):
                self.assertEqual(self.wrong(read_map, row + "\n" + START), (5, 0))
            self.assertEqual(self.wrong(read_map, START + "\n" + row + "\nroad q q"), (5, 1))
            self.assertEqual(self.wrong(run_town, START + "\n" + row + "\nopen 1\nx y z"), (5, 0))
            self.assertEqual(self.wrong(run_town, START + "\n" + row), (5, 0))
            self.assertEqual(self.wrong(run_town, START + "\n" + row + "\nopen\nx"), (5, 0))

    def test_the_map_of_a_town(self):
        for row, word in WRONG:
            if row != "open 1":
                self.assertEqual(self.wrong(run_town, START + "\n" + row), (4, word), row)
                self.assertEqual(self.wrong(run_town, START + "\n" + row + "\nopen\nx"), (4, word), row)

    def test_the_line_with_open(self):
        for text, place in (("", (0, 0)), (START, (4, 0)), ("\nopen 1", (0, 0)), ("seats", (0, 0)),
                            ("open", (0, 1)), ("open ", (0, 1)), ("open x", (0, 1)), ("open -1", (0, 1)),
                            ("open 01", (0, 1)), ("open 1234567890123", (0, 1)), ("open 1 1", (0, 2)),
                            ("open 1 ", (0, 2)), (START + "\nopen", (4, 1)), (START + "\nopen\nwrong", (4, 1)),
                            (START + "\nopened 1\nopen 1", (4, 0)), (START + "\nopen 1\nopen 1", (5, 0)),
                            (START + "\nopen 1\nseats\nopen", (6, 0)), (START + "\n open 1", (4, 0)),
                            ("open 1\n" + START, (1, 0))):
            self.assertEqual(self.wrong(run_town, text), place, text)
        self.assertIn(self.wrong(run_town, "open x 1"), ((0, 1), (0, 2)))

    def test_words_of_later_lines(self):
        for row, word in (("", 0), (" ", 0), ("beg ann hill", 0), ("mast b 1", 0), ("zone lake", 0), ("hear ann", 0),
                          ("Seats", 0), ("begin", 1), ("begin ann", 2), ("begin ann hill hill", 3),
                          ("begin A B C D", 3), ("begin ann ", None), ("go", 1), ("go ann", 2), ("go ann hill x", 3),
                          ("end", 1), ("end ann x", 2), ("end A B C", 2), ("fall", 1), ("fall a a", 2), ("rise", 1),
                          ("rise a ", 2), ("seats ", 1), ("seats x y", 1), ("load x", 1), ("load ", 1),
                          ("begin  ann hill", 3)):
            text = START + "\nopen 1\nload\n" + row
            if word is None:
                self.assertEqual(run_town(text)[-1], "no " + row)
            else:
                self.assertEqual(self.wrong(run_town, text), (6, word), row)
                self.assertEqual(self.wrong(run_town, text + "\nx"), (6, word), row)


class TownScriptTest(unittest.TestCase):

    def test_the_first_example(self):
        told = run_town("mast a 1\nmast b 2\nzone hill a\nzone dale b\nroad dale hill\nopen 0\nbegin one dale\n"
                        "begin two dale\ngo one hill\nseats")
        self.assertEqual(told, ["taken one", "to one b", "refused two down full a ways one:dale>hill two:dale>hill",
                                "to one a", "at one a"])

    def test_other_lines(self):
        text = ("mast a 1\nmast b 1\nmast c 2\nzone x a b\nzone y a\nzone z c\nroad x z\nopen 1\nload\nbegin one y\n"
                "begin two x\nfall b\nend one\nbegin two x\nseats\nfall c\nrise b\nfall a\nseats\nrise b\nrise a\n"
                "seats\nend two\nseats\ngo two x\nbegin Six x\nbegin six X\nbegin two z\nbegin one z\nbegin six z")
        told = ["load 1", "taken one", "to one a", "refused two down b full a ways one:y two:x", "taken two",
                "to two a", "at two a", "no fall c", "to two b", "at two b", "no rise b", "at two b", "no go two x",
                "no begin Six x", "no begin six X", "taken two", "to two c", "taken one", "to one c",
                "refused six down full c ways one:z six:z two:z"]
        self.assertEqual(run_town(text), told)

    def test_load_any(self):
        self.assertEqual(run_town("open 0\nload\nseats"), ["load any"])
        self.assertEqual(run_town("zone x\nopen 12\nbegin one x\nload\nseats"), ["taken one", "load any"])

    def test_names_that_are_words_of_lines(self):
        text = ("mast seats 1\nzone load seats\nopen 1\nbegin seats load\nend load\nfall seats\nrise seats\n"
                "end seats\nfall load\ngo load seats\nseats")
        self.assertEqual(run_town(text), ["taken seats", "to seats seats", "no end load", "to seats seats",
                                          "no fall load", "no go load seats"])

    def deed_lines(self, town, line):
        """What must come of a line, by the town itself."""
        words = line.split(" ")
        before = dict(town.seating)
        if words[0] == "seats":
            return ["at " + call + " " + mast for call, mast in sorted(town.seating.items())]
        if words[0] == "load":
            load = greatest_load(town.plan, town.most)
            return ["load " + ("any" if load is None else str(load))]
        try:
            told = getattr(town, words[0])(*words[1:])
        except BadName:
            return ["no " + line]
        lines = []
        if words[0] == "begin" and told is not None:
            ways = [call + ":" + ">".join(way) for call, way in sorted(told.ways.items())]
            parts = ["refused", words[1], "down", *told.falls, "full", *told.masts, "ways", *ways]
            return [" ".join(parts)]
        if words[0] == "begin":
            lines.append("taken " + words[1])
        moved = [call for call in sorted(town.seating) if before.get(call) != town.seating[call]]
        return lines + ["to " + call + " " + town.seating[call] for call in moved]

    def test_drawn_scripts(self):
        random = Random(264)
        seen = set()
        for _ in range(250):
            plan = drawn_map(random, most_masts=4, most_channels=3, most_roads=8)
            most = random.randint(0, 2)
            town, lines = Town(plan, most), []
            script = [line for line in write_map(plan).split("\n") if line] + ["open " + str(most)]
            for _ in range(25):
                name = random.choice(["c0", "c1", "c2", "c3", "C"])
                zone = random.choice(list(plan.heard) + ["q"])
                mast = random.choice(list(plan.channels) + ["q"])
                line = random.choice(["begin " + name + " " + zone] * 3 + ["go " + name + " " + zone] * 3 +
                                     ["end " + name, "fall " + mast, "rise " + mast, "seats", "load"])
                script.append(line)
                lines.extend(self.deed_lines(town, line))
            self.assertEqual(run_town("\n".join(script)), lines)
            seen |= {line.split(" ")[0] for line in lines}
        self.assertEqual(seen, {"taken", "refused", "to", "at", "load", "no"})
