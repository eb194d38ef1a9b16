"""The core: it does deeds, gives calls seats or gives them up, and has a list for each mast ([12] to [14])."""

from mastcalls.deeds import PARTS
from mastcalls.errors import BadName
from mastcalls.helpers import has_key, is_number, put_in_order
from mastcalls.keeping import Kept
from mastcalls.moving import reseated
from mastcalls.scenes import LIMIT, Call, Scene, is_name

MOST_REPORT = 999999999999


class Line:
    """What a core knows of a call that is there."""

    def __init__(self, worth):
        self.worth = worth
        self.report = -1
        self.heard = ()
        self.epoch = 0
        self.mast = None


class Core:
    """Masts, calls, and what was given to them."""

    def __init__(self):
        self.channels = {}
        self.down = {}
        self.lines = {}
        self.gone = {}
        self.epoch = 0
        self.number = 0
        self.lists = {}
        self.time = 0
        self.served = {}

    def do(self, deed):
        """Does a deed; all that comes of it. BadName, and nothing is changed, if it can't be done."""
        check_deed(self, deed)
        if deed[0] == "tick":
            self.tick()
            return ()
        if deed[0] == "hear" and deed[2] <= self.lines[deed[1]].report:
            return ()
        self.note(deed)
        return self.settle()

    def note(self, deed):
        """Takes down what a deed tells, without a look at seats."""
        word, name = deed[0], deed[1]
        if word == "mast":
            put_in_order(self.channels, name, deed[2])
            put_in_order(self.lists, name, (0, ()))
        elif word == "down":
            put_in_order(self.down, name, True)
        elif word == "up":
            del self.down[name]
        elif word == "begin":
            put_in_order(self.lines, name, Line(deed[2]))
        elif word == "hear":
            line = self.lines[name]
            line.report = deed[2]
            line.heard = tuple(sorted(set(deed[3])))
        else:
            del self.lines[name]
            put_in_order(self.gone, name, "end")

    def tick(self):
        """One more tick for each call on its mast."""
        self.time += 1
        for pair in self.seats_now().items():
            put_in_order(self.served, pair, self.served.get(pair, 0) + 1)

    def present(self):
        """The present scene: the masts that are up, and the calls that one of them hears."""
        channels = {mast: self.channels[mast] for mast in self.channels if mast not in self.down}
        calls = {}
        for name, line in self.lines.items():
            heard = [mast for mast in line.heard if mast in channels]
            if heard:
                calls[name] = Call(line.worth, heard)
        return Scene(channels, calls)

    def settle(self):
        """Gives up who can't be kept, seats the others with fewest moves, makes new lists."""
        scene = self.present()
        told = Kept(scene)
        seating = reseated(scene, told.seating, self.seats_now())
        return tuple(self.give_up(told.papers) + self.seat(seating) + self.renew_lists())

    def give_up(self, papers):
        """Forgets calls for ever; the events of it."""
        events = []
        for name, paper in papers.items():
            del self.lines[name]
            put_in_order(self.gone, name, paper)
            events.append(("gone", name, paper))
        return events

    def seat(self, seating):
        """Gives all calls the seats of a seating, and none to others; the events of it."""
        events = []
        for name, line in self.lines.items():
            mast = seating.get(name)
            if mast == line.mast:
                continue
            line.mast = mast
            if mast is None:
                events.append(("rest", name))
            else:
                self.epoch += 1
                line.epoch = self.epoch
                events.append(("seat", name, mast, line.epoch))
        return events

    def renew_lists(self):
        """New lists for the masts whose calls or epochs have changed; the events of it."""
        rows = {mast: [] for mast in self.channels}
        for name, mast in self.seats_now().items():
            rows[mast].append((name, self.lines[name].epoch))
        events = []
        for mast in rows:
            if tuple(rows[mast]) != self.lists[mast][1]:
                self.number += 1
                self.lists[mast] = (self.number, tuple(rows[mast]))
                events.append(("list", mast, self.number, tuple(rows[mast])))
        return events

    def seats_now(self):
        """The calls with a seat, and their masts."""
        return {name: line.mast for name, line in self.lines.items() if line.mast is not None}

    def ticks_of(self, call):
        """For how many ticks a call had a seat."""
        return sum([many for pair, many in self.served.items() if pair[0] == call])

    def epoch_of(self, call):
        """The epoch of a call if it has a seat, else None."""
        if call not in self.lines or self.lines[call].mast is None:
            return None
        return self.lines[call].epoch

    def value(self):
        """A tuple that is equal for cores that are the same."""
        lines = []
        for name, line in self.lines.items():
            lines.append((name, line.worth, line.report, line.heard, line.epoch, line.mast))
        tables = (self.channels, self.gone, self.lists, self.served)
        pairs = tuple([tuple(table.items()) for table in tables])
        return (pairs, tuple(self.down), tuple(lines), self.epoch, self.number, self.time)


def core_of(deeds):
    """The core behind a row of deeds."""
    core = Core()
    for deed in deeds:
        core.do(deed)
    return core


def check_deed(core, deed):
    """BadName with a deed that is none, or with its first wrong part, in the turn in which [12] tells them."""
    if not is_deed(deed):
        raise BadName(deed)
    word = deed[0]
    if word in ("mast", "down", "up") and not is_right_mast(core, word, deed[1]):
        raise BadName(deed[1])
    if word in ("mast", "begin") and not is_number(deed[2], 0, LIMIT):
        raise BadName(deed[2])
    if word in ("begin", "hear", "end") and not is_right_call(core, word, deed[1]):
        raise BadName(deed[1])
    if word == "hear":
        check_report(core, deed[2], deed[3])


def is_deed(deed):
    """Whether a thing is a tuple with the word of a deed and so many parts as it has."""
    if not isinstance(deed, tuple) or len(deed) == 0 or not isinstance(deed[0], str):
        return False
    return deed[0] in PARTS and len(deed) == 1 + len(PARTS[deed[0]])


def is_right_mast(core, word, mast):
    """Whether a mast can come to be, go down or go up."""
    if word == "mast":
        return is_name(mast) and mast not in core.channels
    if word == "down":
        return has_key(core.channels, mast) and mast not in core.down
    return has_key(core.down, mast)


def is_right_call(core, word, call):
    """Whether a call can begin, or is there to be heard or ended."""
    if word == "begin":
        return is_name(call) and call not in core.lines and call not in core.gone
    return has_key(core.lines, call)


def check_report(core, number, masts):
    """BadName with the number of a report, its masts that are no tuple, or the first that isn't there."""
    if not is_number(number, 0, MOST_REPORT):
        raise BadName(number)
    if not isinstance(masts, tuple):
        raise BadName(masts)
    for mast in masts:
        if not has_key(core.channels, mast):
            raise BadName(mast)
