"""An alliance: masts get their lists of a council, however many sequencers lead at once ([34])."""

from mastcalls.councils import Council, core_by
from mastcalls.helpers import put_in_order, take_letter
from mastcalls.histories import numbered, told_by
from mastcalls.masts import Mast


def lists_of(row):
    """All lists that come of a row of deeds, in turn."""
    return [event for _, event in numbered(told_by(row)) if event[0] == "list"]


class Alliance:
    """A council, masts, and lists on their way to them."""

    def __init__(self, many):
        self.council = Council(many)
        self.masts = {}
        self.lists = []

    def publish(self, number):
        """A sequencer sends to each mast its last list, by the deeds that it knows to be settled."""
        last = {}
        for event in lists_of(self.council.sequencers[number].settled()):
            last[event[1]] = event
        self.lists.extend([last[mast] for mast in sorted(last)])

    def deliver(self, at, is_kept):
        """The list at a place comes to its mast, and stays if it is kept."""
        _, name, number, rows = take_letter(self.lists, at, is_kept)
        if name not in self.masts:
            put_in_order(self.masts, name, Mast(name))
        mast = self.masts[name]
        mast.take(number, rows)

    def lose(self, at):
        """The list at a place never comes."""
        take_letter(self.lists, at, False)

    def settled_core(self):
        """The core behind the settled row."""
        return core_by(self.council.settled())[0]
