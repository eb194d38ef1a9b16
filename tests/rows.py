"""Rows of deeds, right and wrong ones, the same at each run."""

from random import Random

MASTS = ["a", "b", "c"]


class Row:
    """Tells deeds that fit a core, one after another."""

    def __init__(self, seed, most_calls=5, masts=MASTS):
        self.random = Random(seed)
        self.most_calls = most_calls
        self.masts = masts
        self.begun = 0

    def next_deed(self, core):
        """A deed that can be done."""
        choices = []
        new = [mast for mast in self.masts if mast not in core.channels]
        up = [mast for mast in core.channels if mast not in core.down]
        if new:
            choices += [("mast", self.random.choice(new), self.random.randint(0, 2))] * 3
        if up:
            choices.append(("down", self.random.choice(up)))
        if core.down:
            choices += [("up", self.random.choice(list(core.down)))] * 2
        while "c" + str(self.begun) in core.lines or "c" + str(self.begun) in core.gone:
            self.begun += 1
        if len(core.lines) < self.most_calls:
            choices += [("begin", "c" + str(self.begun), self.random.randint(0, 2))] * 2
        if core.lines:
            choices += [self.report(core) for _ in range(5)]
            if self.random.random() < 0.3:
                choices.append(("end", self.random.choice(list(core.lines))))
        choices.append(("tick",))
        return self.random.choice(choices)

    def report(self, core):
        """A report that counts, or one that doesn't."""
        call = self.random.choice(list(core.lines))
        masts = list(core.channels)
        heard = tuple(self.random.choice(masts) for _ in range(self.random.randint(0, 3)) if masts)
        number = max(0, core.lines[call].report + self.random.choice([-1, 0, 1, 1, 1, 2]))
        return ("hear", call, number, heard)
