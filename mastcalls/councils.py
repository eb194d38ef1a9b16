"""A council: keepers, sequencers, and letters between them that may be lost, doubled or late ([33])."""

from mastcalls.cores import Core
from mastcalls.errors import BadName
from mastcalls.helpers import is_number, take_letter
from mastcalls.keepers import Keeper, settled_row
from mastcalls.sequencers import Sequencer

MOST_EPOCH = 999999999999


class Council:
    """So many keepers, and all sequencers that ever began."""

    def __init__(self, many):
        self.keepers = [Keeper(number) for number in range(many)]
        self.sequencers = []
        self.letters = []

    def begin(self, epoch):
        """A new sequencer, of an epoch that no other one has; its number."""
        if not is_number(epoch, 0, MOST_EPOCH) or epoch in [other.epoch for other in self.sequencers]:
            raise BadName(epoch)
        self.sequencers.append(Sequencer(epoch, len(self.keepers)))
        return len(self.sequencers) - 1

    def send(self, number):
        """A sequencer sends its letters."""
        self.letters.extend(self.sequencers[number].to_send())

    def deliver(self, at, is_kept):
        """The letter at a place comes, and stays if it is kept."""
        self.bring(take_letter(self.letters, at, is_kept))

    def bring(self, letter):
        """A letter comes to its keeper, an answer to all sequencers."""
        if letter[0] in ("ask", "write"):
            self.keepers[letter[2]].handle(letter)
        else:
            for sequencer in self.sequencers:
                sequencer.hear(letter)

    def lose(self, at):
        """The letter at a place never comes."""
        take_letter(self.letters, at, False)

    def flush(self, number):
        """A keeper settles what is loose, and sends its answers."""
        self.letters.extend(self.keepers[number].flush())

    def fall(self, number, many):
        """A keeper falls, ahead of which so many of its loose records came to the disk."""
        self.keepers[number].fall(many)

    def stop(self, number):
        """A sequencer stops for good."""
        sequencer = self.sequencers[number]
        sequencer.stand = "stopped"

    def exchange(self, number, up):
        """What a sequencer sends now comes to some keepers, and their answers to all sequencers."""
        for letter in self.sequencers[number].to_send():
            if letter[2] in up:
                self.bring(letter)
        for keeper in up:
            for told in self.keepers[keeper].flush():
                self.bring(told)

    def settled(self):
        """The settled row."""
        return settled_row(self.keepers)


def core_by(deeds):
    """The core behind a row of deeds, and how many of them couldn't be done."""
    core = Core()
    barred = 0
    for deed in deeds:
        try:
            core.do(deed)
        except BadName:
            barred += 1
    return core, barred
