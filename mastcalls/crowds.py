"""Crowded zones, which let in only so many calls ([40], [41])."""

from mastcalls.crowderrors import TooMany
from mastcalls.helpers import has_key
from mastcalls.safety import Lots, are_masts, first_falls, is_theirs


class CrowdDanger:
    """Masts that are down, masts, and steps behind which more calls are with these than they have channels."""

    def __init__(self, falls, masts, steps):
        self.falls = tuple(falls)
        self.masts = tuple(masts)
        self.steps = tuple([tuple(step) for step in steps])

    def __eq__(self, other):
        return (isinstance(other, CrowdDanger) and self.falls == other.falls and self.masts == other.masts
                and self.steps == other.steps)


def counts_of(plan, places):
    """How many calls are in each zone, by the names of the zones."""
    zones = list(places.values())
    return tuple([zones.count(zone) for zone in plan.heard])


def lets_in(limits, zone, many):
    """Whether a zone with so many calls lets in one more."""
    return zone not in limits or many < limits[zone]


def is_standing(plan, limits, places):
    """Whether all calls are in zones of the map, none of which has more than it lets in."""
    zones = list(places.values())
    if not all([has_key(plan.heard, zone) for zone in zones]):
        return False
    return all([zones.count(zone) <= limits[zone] for zone in limits])


def standings_from(plan, limits, counts, most):
    """All counts that steps lead to from some counts, each with a fewest row of moves that leads there."""
    places = {zone: at for at, zone in enumerate(plan.heard)}
    roads = [road for road in plan.roads if road[0] != road[1]]
    ways = {tuple(counts): ()}
    queue = [tuple(counts)]
    at = 0
    while at < len(queue):
        if len(queue) > most:
            raise TooMany(most)
        here = queue[at]
        for zone, other in roads:
            if here[places[zone]] > 0 and lets_in(limits, other, here[places[other]]):
                there = moved_counts(here, places[zone], places[other])
                if there not in ways:
                    ways[there] = ways[here] + ((zone, other),)
                    queue.append(there)
        at += 1
    return {there: ways[there] for there in sorted(queue)}


def moved_counts(counts, first, last):
    """Counts with one less at a place, and one more at another one."""
    moved = list(counts)
    moved[first] -= 1
    moved[last] += 1
    return tuple(moved)


def steps_by(places, moves):
    """The steps of calls that some moves from zone to zone are, one behind the other."""
    standing = dict(places)
    steps = []
    for zone, other in moves:
        name = min([call for call in standing if standing[call] == zone])
        standing[name] = other
        steps.append((name, other))
    return steps


def standing_behind(plan, limits, places, steps):
    """The standing behind some steps; None if they can't be done, one behind the other."""
    standing = dict(places)
    for step in steps:
        if len(step) != 2 or not has_key(standing, step[0]) or standing[step[0]] == step[1]:
            return None
        name, zone = step
        if zone not in plan.next_zones(standing[name]):
            return None
        if not lets_in(limits, zone, list(standing.values()).count(zone)):
            return None
        standing[name] = zone
    return standing


def shows_crowd(plan, limits, places, most, danger):
    """Whether a danger, whoever tells it, is one for a standing."""
    if len(danger.falls) > most or not are_masts(plan, danger.falls) or not are_masts(plan, danger.masts):
        return False
    standing = standing_behind(plan, limits, places, danger.steps)
    if standing is None:
        return False
    theirs = [zone for zone in standing.values() if is_theirs(plan, zone, danger.masts, danger.falls)]
    return len(theirs) > plan.room([mast for mast in danger.masts if mast not in danger.falls])


class Standings:
    """All standings that calls can come to, by going through all of them."""

    def __init__(self, plan, limits, places, most):
        self.plan = plan
        self.places = places
        self.ways = standings_from(plan, limits, counts_of(plan, places), most)
        names = list(plan.heard)
        self.zones = [names[at] for at in range(len(names)) if any([counts[at] > 0 for counts in self.ways])]
        self.at = {zone: at for at, zone in enumerate(names)}
        self.fullest = {}

    def most_in(self, zones):
        """How many calls can be in some zones at a time."""
        return self.calls_in(self.fullest_in(zones), zones)

    def calls_in(self, counts, zones):
        """How many calls are in some zones by some counts."""
        return sum([counts[self.at[zone]] for zone in zones])

    def fullest_in(self, zones):
        """Counts with as many calls in some zones as can be; other falls often ask for the same zones."""
        if zones not in self.fullest:
            self.fullest[zones] = max(self.ways, key=lambda counts: self.calls_in(counts, zones))
        return self.fullest[zones]

    def steps_into(self, zones):
        """Steps behind which so many calls are in some zones."""
        return steps_by(self.places, self.ways[self.fullest_in(zones)])


def crowd_danger(plan, limits, places, most, standings):
    """A danger for a standing, fewest falls first; None without any. TooMany if there are more standings."""
    return danger_of_crowd(Standings(plan, limits, places, standings), most)


def danger_of_crowd(crowd, most):
    """A danger for a crowd, which knows the zones where calls can be, how many can be in some of them at a
    time, and steps behind which they are; None without any."""
    masts = sorted({mast for zone in crowd.zones for mast in crowd.plan.heard[zone]})
    lots = Lots(crowd.plan, masts)
    _, danger = first_falls(masts, most, lambda lot: danger_by_falls(crowd, lots, lot))
    return danger


def danger_by_falls(crowd, lots, falls):
    """A danger for a crowd with some masts down, None without any."""
    theirs = {zone: lots.lot_of(crowd.plan.up_masts(zone, falls)) for zone in crowd.zones}
    heard = {zone: lot for zone, lot in theirs.items() if lot != 0}
    for union, room in lots.unions(list(heard.values()), len(crowd.places)).items():
        zones = tuple([zone for zone in heard if (heard[zone] | union) == union])
        if crowd.most_in(zones) > room:
            return CrowdDanger(falls, lots.masts_in(union), crowd.steps_into(zones))
    return None
