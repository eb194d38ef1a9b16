"""A world: a core, masts, ends of calls, and letters between them that may be lost, doubled or late ([19])."""

from mastcalls.ends import End
from mastcalls.errors import BadName
from mastcalls.helpers import has_key, put_in_order, take_letter
from mastcalls.journals import Journal
from mastcalls.masts import Mast


class World:
    """All that there is, and the letters that are on their way."""

    def __init__(self):
        self.journal = Journal("")
        self.masts = {}
        self.phones = {}
        self.ends = {}
        self.letters = []

    def do(self, deed):
        """Does a deed of the core; all that comes of it."""
        events = self.journal.do(deed)
        # What the core forgot by a fall and begins again goes on as it was.
        if deed[0] == "mast" and deed[1] not in self.masts:
            put_in_order(self.masts, deed[1], Mast(deed[1]))
        if deed[0] == "begin" and deed[1] not in self.phones:
            put_in_order(self.phones, deed[1], End())
            put_in_order(self.ends, deed[1], End())
        return events

    def sync(self):
        """Settles the journal, and sends the lists that waited for it."""
        self.letters.extend(self.journal.sync())

    def send_lists(self):
        """Sends all lists once more."""
        self.letters.extend(self.journal.all_lists())

    def speak(self, call, is_phone, word):
        """A word that the phone, or the far end, wants to send."""
        self.check_call(call)
        if is_phone:
            self.phones[call].put(word)
        else:
            self.ends[call].put(word)

    def send_phone(self, call, masts):
        """The phone sends its frames to each of some masts."""
        self.check_call(call)
        for mast in masts:
            self.check_mast(mast)
        for mast in masts:
            self.letters.extend([("radio", mast, call, frame) for frame in self.phones[call].frames()])

    def send_end(self, call):
        """The far end sends its frames to the call's mast, if that is settled."""
        self.check_call(call)
        core = self.journal.core
        epoch = core.epoch_of(call)
        if epoch is None or self.journal.loose != "":
            return
        mast = core.lines[call].mast
        self.letters.extend([("down", mast, call, epoch, frame) for frame in self.ends[call].frames()])

    def deliver(self, at, is_kept):
        """The letter at a place comes, and stays if it is kept."""
        letter = take_letter(self.letters, at, is_kept)
        if letter[0] in ("list", "radio", "down"):
            self.bring_to_mast(letter)
        elif letter[0] == "air":
            self.phones[letter[1]].hear(letter[2], letter[3])
        elif self.journal.core.epoch_of(letter[1]) == letter[2]:
            self.ends[letter[1]].hear(letter[2], letter[3])

    def bring_to_mast(self, letter):
        """A mast takes a list, or leads a frame on if the call is on it."""
        mast = self.masts[letter[1]]
        led = None
        if letter[0] == "list":
            mast.take(letter[2], letter[3])
        elif letter[0] == "radio":
            led = mast.lead_up(letter[2], letter[3])
        else:
            led = mast.lead_down(letter[2], letter[3], letter[4])
        if led is not None:
            self.letters.append(led)

    def lose(self, at):
        """The letter at a place never comes."""
        take_letter(self.letters, at, False)

    def mast_falls(self, mast):
        """A mast forgets its rows."""
        self.check_mast(mast)
        self.masts[mast].fall()

    def core_falls(self, cut):
        """The core falls, and comes up again with so many signs of what was loose."""
        self.journal = Journal(self.journal.fallen(cut))

    def quiet(self, call):
        """A round in which all is settled and sent, and nothing is lost."""
        self.check_call(call)
        self.sync()
        self.send_lists()
        mast = self.journal.core.seats_now().get(call)
        if mast is not None:
            self.send_phone(call, (mast,))
            self.send_end(call)
        while self.letters:
            self.deliver(0, False)

    def check_call(self, call):
        """BadName for a call that never began."""
        if not has_key(self.phones, call):
            raise BadName(call)

    def check_mast(self, mast):
        """BadName for a mast that never was."""
        if not has_key(self.masts, mast):
            raise BadName(mast)
