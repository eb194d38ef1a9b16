"""A town's journal: what was done in it, so that it comes up again behind a fall ([38])."""

from mastcalls.errors import BadName
from mastcalls.journals import cut_text, whole_beginning
from mastcalls.scenes import is_name
from mastcalls.towns import Town

# How many parts a deed of a town has, its word among them.
DEEDS = {"begin": 3, "go": 3, "end": 2, "fall": 2, "rise": 2}


def do_in(town, deed):
    """Does a deed in a town; what the town tells of it."""
    if not is_town_deed(deed):
        raise BadName(deed)
    word, name = deed[0], deed[1]
    if word == "begin":
        return town.begin(name, deed[2])
    if word == "go":
        return town.go(name, deed[2])
    if word == "end":
        return town.end(name)
    if word == "fall":
        return town.fall(name)
    return town.rise(name)


def is_town_deed(deed):
    """Whether a thing is a tuple with the word of a deed and so many parts as it has."""
    if not isinstance(deed, tuple) or len(deed) == 0 or not isinstance(deed[0], str):
        return False
    return deed[0] in DEEDS and len(deed) == DEEDS[deed[0]]


def town_line(number, deed):
    """A line of the journal; its number stands at both ends, so what is cut off is seen."""
    return " ".join([str(number)] + list(deed) + [str(number)])


def town_deeds(text):
    """The deeds of the longest beginning of whole lines, and how many signs these take."""
    return whole_beginning(text, town_deed_of)


def town_deed_of(words):
    """The deed that some words tell; None if they tell none."""
    deed = tuple(words)
    if is_town_deed(deed) and all([is_name(part) for part in deed[1:]]):
        return deed
    return None


class TownJournal:
    """A town with a text of its deeds: one part is settled, the other one may be lost."""

    def __init__(self, plan, most, text):
        deeds, signs = town_deeds(text)
        self.town = Town(plan, most)
        for deed in deeds:
            do_in(self.town, deed)
        self.text = text[:signs]
        self.loose = ""
        self.many = len(deeds)

    def do(self, deed):
        """Does a deed, and writes it loosely, unless it is refused; what the town tells of it."""
        told = do_in(self.town, deed)
        is_refused = deed[0] == "begin" and told is not None
        if not is_refused:
            self.loose += town_line(self.many, deed) + "\n"
            self.many += 1
        return told

    def sync(self):
        """Settles all that is loose."""
        self.text += self.loose
        self.loose = ""

    def fallen(self, cut):
        """The text behind a fall that leaves so many signs of what is loose."""
        return cut_text(self.text, self.loose, cut)
