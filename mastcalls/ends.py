"""An end of a call: the phone, or who speaks with it ([18])."""

WINDOW = 3


class End:
    """Words to send, and words that were told."""

    def __init__(self):
        self.out = []
        self.answered = 0
        self.told = []
        self.epoch = 0

    def put(self, word):
        """One more word to send."""
        self.out.append(word)

    def frames(self):
        """Frames for the first words that aren't answered, one without a word if all are."""
        many = len(self.told)
        last = min(self.answered + WINDOW, len(self.out))
        if self.answered == last:
            return (("frame", None, None, many),)
        return tuple([("frame", at, self.out[at], many) for at in range(self.answered, last)])

    def hear(self, epoch, frame):
        """Hears a frame, unless it is of an older epoch than one that was heard."""
        if epoch < self.epoch:
            return
        self.epoch = epoch
        _, number, word, many = frame
        if number == len(self.told):
            self.told.append(word)
        if self.answered < many <= len(self.out):
            self.answered = many
