"""Who is kept, and the papers of those who aren't ([6] to [8])."""

from mastcalls.helpers import put_in_order


class Seats:
    """Calls that get seats one by one; who has a seat keeps one, perhaps another one."""

    def __init__(self, scene):
        self.scene = scene
        self.seating = {}
        self.seated = {mast: [] for mast in scene.channels}

    def has_room(self, mast):
        """Whether a channel of the mast is free."""
        return len(self.seated[mast]) < self.scene.channels[mast]

    def add(self, name):
        """Seats one more call if it can be, with all that have seats; whether it was."""
        mast, came = self.way_for(name)
        if mast is None:
            return False
        self.lead(mast, came)
        return True

    def way_for(self, name):
        """A way to a seat for one more call: the mast at its end that has room, or None,
        and a dict from each mast that was looked at to a pair: the call that can come to it,
        and the mast that this call leaves, None for the new one."""
        came = {mast: (name, None) for mast in self.scene.calls[name].heard}
        queue = list(came)
        at = 0
        while at < len(queue):
            mast = queue[at]
            if self.has_room(mast):
                return mast, came
            for call in self.seated[mast]:
                for other in self.scene.calls[call].heard:
                    if other not in came:
                        came[other] = (call, mast)
                        queue.append(other)
            at += 1
        return None, came

    def lead(self, mast, came):
        """Moves all calls along a way, from its end on: so no mast is ever too full."""
        while mast is not None:
            name, left = came[mast]
            self.put(name, mast)
            mast = left

    def put(self, name, mast):
        """Seats a call on a mast with room, away from where it was."""
        if name in self.seating:
            self.seated[self.seating[name]].remove(name)
        self.seated[mast].append(name)
        put_in_order(self.seating, name, mast)

    def paper(self, name):
        """The paper against a call for which there is no way."""
        # All masts that the search came to are full: so the calls on them, with this one,
        # are one more than all channels of the masts that hear any of them.
        _, came = self.way_for(name)
        return tuple(sorted([name] + [call for mast in came for call in self.seated[mast]]))


class Kept:
    """The kept lot of a scene, a seating of it, and papers against all other calls."""

    def __init__(self, scene):
        seats = Seats(scene)
        papers = {}
        for name in scene.order():
            if not seats.add(name):
                papers[name] = seats.paper(name)
        self.lot = tuple(seats.seating)
        self.seating = seats.seating
        self.papers = {name: papers[name] for name in sorted(papers)}


def kept(scene):
    """The kept lot."""
    return Kept(scene).lot


def is_seatable(scene, names):
    """Whether some right seating has just these calls."""
    seats = Seats(scene)
    for name in names:
        if not seats.add(name):
            return False
    return True


def holds_against(scene, seating, name, lot):
    """Whether a tuple of words is a paper against a call, beside a right seating."""
    if name not in lot or len(set(lot)) < len(lot):
        return False
    if not all([word in scene.calls for word in lot]):
        return False
    others = [word for word in lot if word != name]
    if not all([word in seating and scene.rank(word) < scene.rank(name) for word in others]):
        return False
    return len(lot) > scene.room(scene.masts_of(lot))
