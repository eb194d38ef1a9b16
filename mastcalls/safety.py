"""Dangers: journeys that would leave somebody without a channel ([22], [24])."""

from itertools import combinations

from mastcalls.helpers import has_key


class Danger:
    """Masts that are down, masts, and ways by which more calls come to these than they have channels."""

    def __init__(self, falls, masts, ways):
        self.falls = tuple(falls)
        self.masts = tuple(masts)
        self.ways = {call: tuple(way) for call, way in ways.items()}

    def __eq__(self, other):
        return (isinstance(other, Danger) and self.falls == other.falls and self.masts == other.masts
                and self.ways == other.ways)


class Lots:
    """Lots of masts as numbers, with a bit for each mast: so unions of many are quick."""

    def __init__(self, plan, masts):
        self.plan = plan
        self.masts = masts
        self.bits = {mast: 1 << at for at, mast in enumerate(masts)}

    def lot_of(self, masts):
        """Some masts as a lot."""
        return sum([self.bits[mast] for mast in masts])

    def masts_in(self, lot):
        """The masts of a lot."""
        return tuple([mast for mast in self.masts if (self.bits[mast] & lot) != 0])

    def unions(self, lots, bound):
        """All unions of one or more lots that have fewer channels than a bound, and how many they have."""
        found = {0: 0}
        for one in sorted(set(lots)):
            for other in list(found):
                room = self.plan.room(self.masts_in(one | other))
                if room < bound:
                    found[one | other] = room
        del found[0]
        return found


class Roamers:
    """Calls in zones, where each of them can come to, and so many more calls that may come up anywhere."""

    def __init__(self, plan, places, extra):
        self.plan = plan
        self.places = places
        self.extra = extra
        starts = list(places.values())
        self.many = {zone: starts.count(zone) for zone in sorted(set(starts))}
        self.ways = {zone: plan.reach(zone) for zone in self.many}
        anywhere = list(plan.heard) if extra > 0 else []
        zones = anywhere + [end for ways in self.ways.values() for end in ways]
        # Of dangers with fewest falls none has a mast down that nobody can come to.
        self.masts = sorted({mast for zone in zones for mast in plan.heard[zone]})
        self.lots = Lots(plan, self.masts)
        self.ends = {zone: self.lots_within(list(self.ways[zone])) for zone in self.many}
        self.anywhere = self.lots_within(anywhere)

    def lots_within(self, zones):
        """The lots of masts that are heard in some zones, each once."""
        return sorted({self.lots.lot_of(self.plan.heard[zone]) for zone in zones})

    def gatherings(self, falls):
        """With some masts down, for all lots of masts that may have too few channels: the lot, its
        channels, and how many calls can be where only these masts are heard."""
        up = self.lots.lot_of([mast for mast in self.masts if mast not in falls])
        least = {zone: least_lots([lot & up for lot in self.ends[zone]]) for zone in self.many}
        sources = least_lots([lot & up for lot in self.anywhere])
        for lots in least.values():
            sources.extend(lots)
        found = []
        for union, room in self.lots.unions(sources, len(self.places) + self.extra).items():
            comers = [self.many[zone] for zone in least if any([(lot | union) == union for lot in least[zone]])]
            found.append((union, room, sum(comers)))
        return found

    def overfull(self, falls):
        """Masts with fewer channels than calls that can be where only these are heard, with some
        masts down; None if there are none."""
        for lot, room, comers in self.gatherings(falls):
            if comers + self.extra > room:
                return self.lots.masts_in(lot)
        return None

    def ways_to(self, masts, falls):
        """For each call that can come to where only some masts are heard, a shortest way there."""
        shortest = {}
        for zone in self.many:
            ways = [way for end, way in self.ways[zone].items() if is_theirs(self.plan, end, masts, falls)]
            if ways:
                shortest[zone] = min(ways, key=len)
        return {name: shortest[self.places[name]] for name in sorted(self.places) if self.places[name] in shortest}


def least_lots(lots):
    """The lots, but empty ones and those that hold another one: who can come to a lot alone does."""
    lots = sorted({lot for lot in lots if lot != 0})
    return [lot for lot in lots if not any([(other | lot) == lot for other in lots if other != lot])]


def is_theirs(plan, zone, masts, falls):
    """Whether, with some masts down, a mast is heard in a zone, and none but some masts."""
    up = plan.up_masts(zone, falls)
    return len(up) > 0 and all([mast in masts for mast in up])


def danger_for(plan, places, most):
    """A danger for calls in zones with up to so many masts down, fewest falls first; None without any."""
    roamers = Roamers(plan, places, 0)
    falls, masts = first_falls(roamers.masts, most, lambda lot: roamers.overfull(lot))
    return None if falls is None else Danger(falls, masts, roamers.ways_to(masts, falls))


def first_falls(masts, most, danger_of):
    """The first lot of up to so many masts, the shorter ones first, of which a function tells a danger, and
    what it tells; None and None without any."""
    for many in range(min(most, len(masts)) + 1):
        for falls in combinations(masts, many):
            danger = danger_of(falls)
            if danger is not None:
                return falls, danger
    return None, None


def shows(plan, places, most, danger):
    """Whether a danger, whoever tells it, is one for calls in zones."""
    if len(danger.falls) > most or not are_masts(plan, danger.falls) or not are_masts(plan, danger.masts):
        return False
    for name, way in danger.ways.items():
        if not has_key(places, name) or not is_way(plan, way) or way[0] != places[name]:
            return False
        if not is_theirs(plan, way[-1], danger.masts, danger.falls):
            return False
    return len(danger.ways) > plan.room([mast for mast in danger.masts if mast not in danger.falls])


def are_masts(plan, masts):
    """Whether some masts are of the map, and unlike."""
    return all([has_key(plan.channels, mast) for mast in masts]) and len(set(masts)) == len(masts)


def is_way(plan, way):
    """Whether some zones, one at least, are along roads."""
    if len(way) == 0 or not all([has_key(plan.heard, zone) for zone in way]):
        return False
    return all([way[at] in plan.next_zones(way[at - 1]) for at in range(1, len(way))])


def greatest_load(plan, most):
    """How many calls, wherever they are, are in no danger with up to so many masts down; None if any
    number is in none."""
    # The worst is that all of them are in one zone.
    return min([least_room(plan, masts, most) for masts in plan.heard.values() if masts], default=None)


def least_room(plan, masts, most):
    """The fewest channels that some masts have together when up to so many fall, but one."""
    channels = sorted([plan.channels[mast] for mast in masts])
    return sum(channels[:max(1, len(channels) - most)])
