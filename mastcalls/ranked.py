"""Seats that are promised to emergency calls, wherever these come up ([44], [45])."""

from mastcalls.errors import BadName
from mastcalls.helpers import is_number, lots_up_to, put_in_order
from mastcalls.safety import Roamers, first_falls, greatest_load
from mastcalls.towns import Town

MOST_EXTRA = 1000


class RankDanger:
    """Masts that are down, masts that are up, and ways of calls that come to these; with so many emergency
    calls beside them, they are more than the masts have channels."""

    def __init__(self, falls, masts, ways, extra):
        self.falls = tuple(falls)
        self.masts = tuple(masts)
        self.ways = {call: tuple(way) for call, way in ways.items()}
        self.extra = extra

    def __eq__(self, other):
        return (isinstance(other, RankDanger) and self.falls == other.falls and self.masts == other.masts
                and self.ways == other.ways and self.extra == other.extra)


def danger_beside(plan, places, most, extra):
    """A danger for ordinary calls in zones and so many emergency calls anywhere; None without any."""
    roamers = Roamers(plan, places, extra)
    falls, masts = first_falls(roamers.masts, most, lambda lot: roamers.overfull(lot))
    return None if falls is None else RankDanger(falls, masts, roamers.ways_to(masts, falls), extra)


def greatest_promise(plan, places, most):
    """How many emergency calls can be promised seats beside ordinary calls; None if any number can be, less
    than 0 if the ordinary ones are too many by themselves."""
    promise = greatest_load(plan, most)
    if promise is None:
        return None
    # Masts that have more channels than so many calls beside the ordinary ones are never the worst.
    roamers = Roamers(plan, places, promise)
    for falls in lots_up_to(roamers.masts, most):
        left = [room - comers for _, room, comers in roamers.gatherings(falls)]
        promise = min(left + [promise])
    return promise


class RankTown(Town):
    """A town that promises seats to so many emergency calls at a time."""

    def __init__(self, plan, most, extra):
        if not is_number(extra, 0, MOST_EXTRA) or danger_beside(plan, {}, most, extra) is not None:
            raise BadName(extra)
        super().__init__(plan, most)
        self.extra = extra
        self.promised = {}

    def begin_urgent(self, name, zone):
        """Takes an emergency call if a promise is free, else begins it as an ordinary one."""
        self.check_new(name, zone)
        if len(self.promised) >= self.extra:
            return self.begin(name, zone)
        put_in_order(self.promised, name, True)
        return self.take(self.places_with(name, zone), None)

    def begin(self, name, zone):
        """Takes an ordinary call, and tells None, if all promises can be kept with it; else tells the danger."""
        self.check_new(name, zone)
        places = self.places_with(name, zone)
        return self.take(places, self.danger_at(places))

    def danger_at(self, places):
        """A danger for the calls in zones that take no promise, beside all that are promised."""
        ordinary = {name: zone for name, zone in places.items() if name not in self.promised}
        return danger_beside(self.plan, ordinary, self.most, self.extra)

    def end(self, name):
        """A call ends, and its promise is free again; the calls that move."""
        moves = super().end(name)
        if name in self.promised:
            del self.promised[name]
        return moves

    def is_safe(self):
        """Whether all promises and seats can be kept, wherever all calls go and whichever masts fall."""
        return self.danger_at(self.places) is None
