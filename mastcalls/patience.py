"""Patience: who has rested for too many ticks in a row is ended ([36])."""

from mastcalls.errors import BadName
from mastcalls.helpers import is_number

LONGEST = 1000


class Patience:
    """A core, and for how many ticks in a row each of its calls that rest has rested."""

    def __init__(self, core, most):
        if not is_number(most, 0, LONGEST):
            raise BadName(most)
        self.core = core
        self.most = most
        self.rested = {}
        self.note(0)

    def do(self, deed):
        """Does a deed, and ends who has rested for too long behind it; the deeds, and what came of each."""
        done = [(deed, self.core.do(deed))]
        if deed[0] != "tick":
            self.note(0)
            return tuple(done)
        self.note(1)
        for name in [name for name, ticks in self.rested.items() if ticks > self.most]:
            end = ("end", name)
            done.append((end, self.core.do(end)))
        self.note(0)
        return tuple(done)

    def note(self, ticks):
        """Who rests now has rested for so many ticks more; the row of all others is at its end."""
        resting = [name for name, line in self.core.lines.items() if line.mast is None]
        self.rested = {name: self.rested.get(name, 0) + ticks for name in resting}
