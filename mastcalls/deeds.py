"""Deeds of the core as lines, and back ([15])."""

from mastcalls.errors import BadText
from mastcalls.scenes import FIGURES, is_name

# What stands behind each word of a deed; masts may be any number, () too.
PARTS = {
    "mast": ("name", "number"),
    "down": ("name",),
    "up": ("name",),
    "begin": ("name", "number"),
    "hear": ("name", "number", "masts"),
    "end": ("name",),
    "tick": (),
}
MOST_FIGURES = 12


def deed_line(deed):
    """The parts of a deed with blanks between, the masts of a report one by one."""
    words = []
    for part in deed:
        if isinstance(part, tuple):
            words.extend(part)
        else:
            words.append(str(part))
    return " ".join(words)


def read_deed(text, line):
    """The deed that a line tells; BadText for the first word that can't stand there."""
    words = text.split(" ")
    if words[0] not in PARTS:
        raise BadText(line, 0)
    deed = [words[0]]
    at = 1
    for kind in PARTS[words[0]]:
        if kind == "masts":
            deed.append(read_masts(words, at, line))
            at = len(words)
        else:
            deed.append(read_word(words, at, kind, line))
            at += 1
    if at < len(words):
        raise BadText(line, at)
    return tuple(deed)


def read_word(words, at, kind, line):
    """The name or the number that stands at a place."""
    if at == len(words):
        raise BadText(line, at)
    if kind == "name" and is_name(words[at]):
        return words[at]
    if kind == "number" and is_written_number(words[at]):
        return int(words[at])
    raise BadText(line, at)


def read_masts(words, first, line):
    """The names from a place on, there may be none."""
    return tuple([read_word(words, at, "name", line) for at in range(first, len(words))])


def read_name(words, at, line, table, is_there):
    """The name at a place, which must be in a table, or must not be there."""
    name = read_word(words, at, "name", line)
    if (name in table) != is_there:
        raise BadText(line, at)
    return name


def check_end(words, many, line):
    """BadText for the first word too much."""
    if len(words) > many:
        raise BadText(line, many)


def is_written_number(word):
    """Whether a word is a number of at most 12 figures, none needless."""
    if not 1 <= len(word) <= MOST_FIGURES or not all([sign in FIGURES for sign in word]):
        return False
    return word == "0" or word[0] != "0"


def write_deeds(deeds):
    """The lines of some deeds."""
    return "\n".join([deed_line(deed) for deed in deeds])


def read_deeds(text):
    """The deeds that some lines tell."""
    if text == "":
        return ()
    lines = text.split("\n")
    return tuple([read_deed(lines[line], line) for line in range(len(lines))])
