"""Maps as lines, and scripts for a town ([26])."""

from mastcalls.deeds import check_end, read_name, read_word
from mastcalls.errors import BadName, BadScene, BadText
from mastcalls.maps import Map
from mastcalls.moving import moves_of
from mastcalls.safety import greatest_load
from mastcalls.towns import Town

# How many words a line behind the one with open has.
WORDS = {"begin": 3, "go": 3, "end": 2, "fall": 2, "rise": 2, "seats": 1, "load": 1}


def write_map(plan):
    """The lines of a map."""
    lines = [f"mast {mast} {many}" for mast, many in plan.channels.items()]
    for zone, masts in plan.heard.items():
        lines.append(" ".join(["zone", zone] + list(masts)))
    for zone, other in plan.roads:
        lines.append(f"road {zone} {other}")
    return "\n".join(lines)


def read_map(text):
    """The map that some lines tell."""
    return map_by_lines([] if text == "" else text.split("\n"))


def map_by_lines(lines):
    """The map that a list of lines tells; BadText behind the last one if they tell none."""
    channels, heard, roads = {}, {}, []
    for line, row in enumerate(lines):
        words = row.split(" ")
        if words[0] == "mast":
            name = read_name(words, 1, line, channels, False)
            channels[name] = read_word(words, 2, "number", line)
            check_end(words, 3, line)
        elif words[0] == "zone":
            name = read_name(words, 1, line, heard, False)
            heard[name] = [read_name(words, at, line, channels, True) for at in range(2, len(words))]
        elif words[0] == "road":
            roads.append([read_name(words, at, line, heard, True) for at in (1, 2)])
            check_end(words, 3, line)
        else:
            raise BadText(line, 0)
    try:
        return Map(channels, heard, roads)
    except BadScene:
        raise BadText(len(lines), 0)


def run_town(text):
    """The lines that come of a map's lines, one that tells how many masts may be down, and deeds and questions."""
    lines = text.split("\n")
    first = first_open(lines)
    plan = map_by_lines(lines[:first])
    if first == len(lines):
        raise BadText(first, 0)
    words = lines[first].split(" ")
    most = read_word(words, 1, "number", first)
    check_end(words, 2, first)
    town = Town(plan, most)
    told = []
    for line in range(first + 1, len(lines)):
        told.extend(do_line(town, lines[line], line))
    return told


def first_open(lines):
    """The number of the first line whose first word is open, else that behind the last one."""
    for line, row in enumerate(lines):
        if row.split(" ")[0] == "open":
            return line
    return len(lines)


def do_line(town, row, line):
    """The lines that come of a deed or a question."""
    words = row.split(" ")
    if words[0] not in WORDS:
        raise BadText(line, 0)
    many = WORDS[words[0]]
    if len(words) != many:
        raise BadText(line, min(len(words), many))
    if words[0] == "seats":
        return [f"at {call} {mast}" for call, mast in town.seating.items()]
    if words[0] == "load":
        load = greatest_load(town.plan, town.most)
        return ["load any" if load is None else f"load {load}"]
    try:
        return do_deed(town, words)
    except BadName:
        return ["no " + row]


def do_deed(town, words):
    """The lines that come of a deed; BadName if it can't be done."""
    if words[0] == "begin":
        before = dict(town.seating)
        danger = town.begin(words[1], words[2])
        if danger is not None:
            return [refusal_line(words[1], danger)]
        return [f"taken {words[1]}"] + move_lines(town, moves_of(town.seating, before))
    if words[0] == "go":
        return move_lines(town, town.go(words[1], words[2]))
    if words[0] == "end":
        return move_lines(town, town.end(words[1]))
    if words[0] == "fall":
        return move_lines(town, town.fall(words[1]))
    return move_lines(town, town.rise(words[1]))


def move_lines(town, moves):
    """Where the calls that moved are seated now."""
    return [f"to {call} {town.seating[call]}" for call in moves]


def refusal_line(name, danger):
    """The line of a call that isn't taken, with the danger."""
    ways = [call + ":" + ">".join(way) for call, way in danger.ways.items()]
    words = ["refused", name, "down"] + list(danger.falls) + ["full"] + list(danger.masts) + ["ways"] + ways
    return " ".join(words)
