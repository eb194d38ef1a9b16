"""A mast: it leads frames on for the calls on its list ([17])."""


class Mast:
    """A mast with the last list that it took."""

    def __init__(self, name):
        self.name = name
        self.number = 0
        self.rows = {}

    def take(self, number, rows):
        """Takes a list, unless it is older than the last one."""
        if number < self.number:
            return
        self.number = number
        self.rows = {call: epoch for call, epoch in sorted(rows)}

    def fall(self):
        """Forgets its rows, until a list comes that is no older than the last one."""
        self.rows = {}

    def lead_up(self, call, frame):
        """What goes on to the far end; None for a call that isn't on the mast."""
        if call not in self.rows:
            return None
        return ("up", call, self.rows[call], frame)

    def lead_down(self, call, epoch, frame):
        """What goes on to the phone; None for a call that isn't on the mast in this epoch."""
        if call not in self.rows or self.rows[call] != epoch:
            return None
        return ("air", call, epoch, frame)
