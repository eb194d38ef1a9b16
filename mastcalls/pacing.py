"""Two ends by a clock: by when all words are told and answered ([35])."""

from mastcalls.ends import WINDOW, End
from mastcalls.errors import BadName
from mastcalls.helpers import is_number

LONGEST = 1000
# Both ends are of one call that stays where it is.
EPOCH = 1


class Pace:
    """Two ends, whose frames take up to some ticks, and are lost up to some times in a row."""

    def __init__(self, delay, losses):
        if not is_number(delay, 1, LONGEST):
            raise BadName(delay)
        if not is_number(losses, 0, LONGEST):
            raise BadName(losses)
        self.delay = delay
        self.losses = losses
        self.ends = (End(), End())
        self.time = 0
        # For each end in how many ticks in a row its frames were lost; frames on their way:
        # at the end of which tick they are heard, by which end, and the frame.
        self.row_of_losses = [0, 0]
        self.flying = []

    def put(self, at, word):
        """An end wants to send a word."""
        self.ends[at].put(word)

    def tick(self, wishes):
        """Both ends send their frames, and those that come at the end of this tick are heard."""
        for _, ticks in wishes:
            if not is_number(ticks, 1, self.delay):
                raise BadName(ticks)
        for at, (is_lost, ticks) in enumerate(wishes):
            if is_lost and self.row_of_losses[at] < self.losses:
                self.row_of_losses[at] += 1
            else:
                self.row_of_losses[at] = 0
                self.send(at, self.time + ticks)
        self.time += 1
        self.hear_frames()

    def send(self, at, due):
        """Puts the frames of an end on their way to the other one."""
        self.flying.extend([(due, 1 - at, frame) for frame in self.ends[at].frames()])

    def hear_frames(self):
        """The frames that come now are heard, in the order in which they were sent."""
        coming = [row for row in self.flying if row[0] == self.time]
        self.flying = [row for row in self.flying if row[0] > self.time]
        for _, at, frame in coming:
            self.ends[at].hear(EPOCH, frame)

    def is_done(self):
        """Whether all words of both ends are told and answered."""
        return all([end.answered == len(end.out) for end in self.ends])


def slowest(words, delay, losses):
    """Behind how many ticks so many words of each end are told and answered, whatever comes."""
    windows = (words + WINDOW - 1) // WINDOW
    return 2 * (delay + losses + 1) * windows
