"""Sequencers: who leads writes entries to the keepers ([32])."""

from mastcalls.errors import BadName
from mastcalls.keepers import most_of


class Sequencer:
    """Asks keepers for their rows, then leads, until somebody of a greater epoch does."""

    def __init__(self, epoch, many):
        self.epoch = epoch
        self.many = many
        self.stand = "asking"
        self.row = []
        # The rows that keepers told; how many entries each keeper has taken.
        self.rows = {}
        self.taken = {number: 0 for number in range(many)}

    def to_send(self):
        """The letters that it would send now."""
        if self.stand == "asking":
            return tuple([("ask", self.epoch, number) for number in self.taken if number not in self.rows])
        if self.stand == "leading":
            return tuple([self.write_to(number) for number in self.taken if self.taken[number] < len(self.row)])
        return ()

    def write_to(self, number):
        """The letter with the first entry that a keeper hasn't taken."""
        place = self.taken[number]
        return ("write", self.epoch, number, place, self.row[place])

    def hear(self, letter):
        """An answer of a keeper comes; only those of its own epoch count."""
        word, epoch, number = letter[0], letter[1], letter[2]
        if epoch != self.epoch or self.stand == "stopped":
            return
        if word == "refused":
            self.stand = "stopped"
        elif word == "told" and self.stand == "asking":
            self.rows[number] = letter[3]
            if len(self.rows) >= most_of(self.many):
                self.row = newest_row(list(self.rows.values()))
                self.stand = "leading"
        elif word == "taken" and self.stand == "leading" and letter[3] == self.taken[number]:
            self.taken[number] += 1

    def add(self, entry):
        """One more entry, behind the row."""
        if self.stand != "leading":
            raise BadName(entry)
        self.row.append(entry)

    def settled(self):
        """The entries that most keepers have answered as taken."""
        counts = sorted(list(self.taken.values()), reverse=True)
        return tuple(self.row[:counts[most_of(self.many) - 1]])


def newest_row(rows):
    """At each place the entry of the greatest epoch that any of the rows has there."""
    entries = []
    for place in range(max([len(row) for row in rows])):
        pairs = [row[place] for row in rows if place < len(row)]
        entries.append(max(pairs, key=lambda pair: pair[0])[1])
    return entries
