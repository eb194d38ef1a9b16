"""Scenes: masts with channels, and calls that some of them hear ([3] to [5])."""

from mastcalls.errors import BadScene
from mastcalls.helpers import has_key, is_number

SMALL_LETTERS = "abcdefghijklmnopqrstuvwxyz"
FIGURES = "0123456789"
LONGEST_NAME = 8
LIMIT = 1000


def is_name(thing):
    """Whether any thing is a name: a small letter, and up to seven letters and figures."""
    if not isinstance(thing, str) or not 1 <= len(thing) <= LONGEST_NAME:
        return False
    if thing[0] not in SMALL_LETTERS:
        return False
    return all([sign in SMALL_LETTERS or sign in FIGURES for sign in thing])


class Call:
    """A call: how worthy it is, and which masts hear it."""

    def __init__(self, worth, heard):
        self.worth = worth
        self.heard = tuple(sorted(heard))

    def __eq__(self, other):
        return isinstance(other, Call) and self.worth == other.worth and self.heard == other.heard


class Scene:
    """Masts with their channels, and calls."""

    def __init__(self, channels, calls):
        for mast in channels:
            check_mast(mast, channels[mast])
        for name in calls:
            check_call(name, calls[name], channels)
        self.channels = {mast: channels[mast] for mast in sorted(channels)}
        self.calls = {name: calls[name] for name in sorted(calls)}

    def __eq__(self, other):
        return isinstance(other, Scene) and self.channels == other.channels and self.calls == other.calls

    def order(self):
        """All calls, the worthier first, of one worth by name."""
        return sorted(self.calls, key=self.rank)

    def rank(self, name):
        """What is less for a call that is earlier in the order."""
        return (-self.calls[name].worth, name)

    def room(self, masts):
        """How many channels some masts have together."""
        return sum([self.channels[mast] for mast in masts])

    def masts_of(self, names):
        """All masts that hear any of some calls."""
        return tuple(sorted({mast for name in names for mast in self.calls[name].heard}))


def check_mast(mast, many):
    """BadScene for a mast that is no name, or has no number of channels that may be."""
    if not is_name(mast):
        raise BadScene("mast")
    if not is_number(many, 0, LIMIT):
        raise BadScene("channels")


def check_call(name, call, channels):
    """BadScene for a call that is no name, or that can't be in a scene with these masts."""
    if not is_name(name):
        raise BadScene("call")
    if not is_number(call.worth, 0, LIMIT):
        raise BadScene("worth")
    check_heard(call.heard, channels)


def check_heard(heard, channels):
    """BadScene for a row of masts that hear somebody, if one isn't there, or stands twice."""
    known = [mast for mast in heard if has_key(channels, mast)]
    if len(known) < len(heard) or len(set(known)) < len(known):
        raise BadScene("heard")


def wrong_seating(scene, seating):
    """None for a right seating, else the word for what is wrong first."""
    loads = {mast: 0 for mast in scene.channels}
    for name in seating:
        if name not in scene.calls:
            return "call"
        if seating[name] not in scene.calls[name].heard:
            return "heard"
        loads[seating[name]] += 1
    if any([loads[mast] > scene.channels[mast] for mast in loads]):
        return "full"
    return None
