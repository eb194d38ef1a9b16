"""The journal: what a core did, so that it comes up again behind a fall ([16])."""

from mastcalls.cores import core_of
from mastcalls.deeds import deed_line, read_deed
from mastcalls.errors import BadCut, BadText
from mastcalls.helpers import is_number


def whole_line(number, deed):
    """A line of the journal; its number stands at both ends, so what is cut off is seen."""
    return f"{number} {deed_line(deed)} {number}"


def deeds_in(text):
    """The deeds of the longest beginning of whole lines, and how many signs these take."""
    return whole_beginning(text, deed_of)


def whole_beginning(text, read):
    """The deeds of the longest beginning of whole lines, each read by a function of the words between its
    numbers, that tells None for no deed; and how many signs these lines take."""
    deeds = []
    signs = 0
    # What stands behind the last line feed is no line yet.
    for line in text.split("\n")[:-1]:
        words = line.split(" ")
        number = str(len(deeds))
        deed = read(words[1:-1]) if words[0] == number and words[-1] == number else None
        if deed is None:
            break
        deeds.append(deed)
        signs += len(line) + 1
    return tuple(deeds), signs


def deed_of(words):
    """The deed of the core that some words tell; None if they tell none."""
    try:
        return read_deed(" ".join(words), 0)
    except BadText:
        return None


class Journal:
    """A core with a text of its deeds: one part is settled, the other one may be lost."""

    def __init__(self, text):
        deeds, signs = deeds_in(text)
        self.core = core_of(deeds)
        self.text = text[:signs]
        self.loose = ""
        self.many = len(deeds)
        self.waiting = []

    def do(self, deed):
        """Does a deed, and writes it loosely; all that comes of it. Its lists wait to be sent."""
        events = self.core.do(deed)
        self.loose += whole_line(self.many, deed) + "\n"
        self.many += 1
        self.waiting.extend([event for event in events if event[0] == "list"])
        return events

    def sync(self):
        """Settles all that is loose; the lists that waited for it."""
        self.text += self.loose
        self.loose = ""
        lists = tuple(self.waiting)
        self.waiting = []
        return lists

    def all_lists(self):
        """The lists of all masts, none while something is loose: it might be forgotten."""
        if self.loose != "":
            return ()
        return tuple([("list", mast, told[0], told[1]) for mast, told in self.core.lists.items()])

    def fallen(self, cut):
        """The text behind a fall that leaves so many signs of what is loose."""
        return cut_text(self.text, self.loose, cut)


def cut_text(text, loose, cut):
    """A settled text with so many signs of a loose one."""
    if not is_number(cut, 0, len(loose)):
        raise BadCut(cut)
    return text + loose[:cut]
