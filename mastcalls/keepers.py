"""Keepers: each keeps the row of entries on its disk; what most of them took is settled ([30], [31])."""

from mastcalls.errors import BadName
from mastcalls.helpers import is_number


class Known:
    """What some records come to: the greatest epoch, and the row of pairs (epoch, entry)."""

    def __init__(self, records):
        self.epoch = -1
        self.row = []
        for record in records:
            self.epoch = max(self.epoch, record[1])
            if record[0] == "take":
                # Just at the place; behind the last one the slice is empty.
                self.row[record[2]:record[2] + 1] = [(record[1], record[3])]


class Keeper:
    """One of several who keep the row of entries."""

    def __init__(self, number):
        self.number = number
        self.records = ()
        self.loose = ()
        self.waiting = ()

    def kept(self):
        """What all records come to, loose ones too."""
        return Known(self.records + self.loose)

    def handle(self, letter):
        """A letter of a sequencer comes; the answer, if there is one, waits for the disk."""
        word, epoch = letter[0], letter[1]
        known = self.kept()
        if epoch < known.epoch:
            self.reply(("refused", epoch, self.number, known.epoch))
        elif word == "ask":
            if epoch > known.epoch:
                self.note(("promise", epoch))
            self.reply(("told", epoch, self.number, tuple(known.row)))
        else:
            self.take(known.row, epoch, letter[3], letter[4])

    def take(self, row, epoch, place, entry):
        """Takes an entry at a place of its row, unless what is ahead of it is of another epoch."""
        if place > len(row) or (place > 0 and row[place - 1][0] != epoch):
            return
        if place == len(row) or row[place] != (epoch, entry):
            self.note(("take", epoch, place, entry))
        self.reply(("taken", epoch, self.number, place))

    def note(self, record):
        """One more record, not settled yet."""
        self.loose += (record,)

    def reply(self, told):
        """One more answer, which waits."""
        self.waiting += (told,)

    def flush(self):
        """Settles what is loose; the answers that waited for it."""
        told = self.waiting
        self.records += self.loose
        self.loose = ()
        self.waiting = ()
        return told

    def fall(self, many):
        """A fall, ahead of which so many of the loose records came to the disk."""
        if not is_number(many, 0, len(self.loose)):
            raise BadName(many)
        self.records += self.loose[:many]
        self.loose = ()
        self.waiting = ()


def most_of(many):
    """The least number that is more than half."""
    return many // 2 + 1


def settled_at(keepers, place):
    """The unlike entries that are settled at a place."""
    entries = []
    for take in takes_at(keepers, place):
        holders = [keeper for keeper in keepers if take in keeper.records]
        if len(holders) >= most_of(len(keepers)) and take[3] not in entries:
            entries.append(take[3])
    return entries


def takes_at(keepers, place):
    """The unlike takes of a place on all disks."""
    takes = []
    for keeper in keepers:
        for record in keeper.records:
            if record[0] == "take" and record[2] == place and record not in takes:
                takes.append(record)
    return takes


def settled_row(keepers):
    """The first entry that is settled at each place, up to the first place without any."""
    row = []
    entries = settled_at(keepers, 0)
    while entries:
        row.append(entries[0])
        entries = settled_at(keepers, len(row))
    return tuple(row)
