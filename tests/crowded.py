"""Drawn crowds, and where they can come to, found by going step by step."""

from itertools import combinations

from mastcalls.crowds import CrowdDanger
from mastcalls.maps import Map
from tests.drawn import is_lacking


def drawn_limits(random, plan, most=3):
    """Limits of some zones, 0 among them."""
    return {zone: random.choice([0, 1, 1, 2, most]) for zone in plan.heard if random.random() < 0.6}


def drawn_standing(random, plan, limits, most_calls=4):
    """Some calls, no zone having more than it lets in."""
    places = {}
    for at in range(random.randint(0, most_calls)):
        counts = list(places.values())
        zones = [zone for zone in plan.heard if counts.count(zone) < limits.get(zone, 99)]
        if zones:
            places["c" + str(at)] = random.choice(zones)
    return places


def with_ways_back(plan):
    """The map with a road back for each road."""
    return Map(plan.channels, plan.heard, list(plan.roads) + [(other, zone) for zone, other in plan.roads])


def steps_now(plan, limits, places):
    """All steps that can be done."""
    steps = []
    for call, zone in places.items():
        for first, last in plan.roads:
            if first == zone != last and list(places.values()).count(last) < limits.get(last, 99):
                steps.append((call, last))
    return steps


def all_standings(plan, limits, places):
    """For all standings that steps lead to, as rows of pairs, how many steps are needed at least."""
    many = {tuple(sorted(places.items())): 0}
    queue = list(many)
    while queue:
        row = queue.pop(0)
        for call, zone in steps_now(plan, limits, dict(row)):
            other = tuple(sorted({**dict(row), call: zone}.items()))
            if other not in many:
                many[other] = many[row] + 1
                queue.append(other)
    return many


def counts_by_hand(plan, places):
    """How many calls are in each zone."""
    return tuple(sum(place == zone for place in dict(places).values()) for zone in sorted(plan.heard))


def all_counts(plan, limits, places):
    """All counts that steps lead to, and how many steps are needed at least."""
    found = {}
    for row, many in all_standings(plan, limits, places).items():
        counts = counts_by_hand(plan, row)
        found[counts] = min(many, found.get(counts, many))
    return found


def fewest_falls(plan, limits, places, most):
    """With how few masts down some standing leaves somebody without a channel; None if none does."""
    zones = {tuple(sorted(dict(row).values())) for row in all_standings(plan, limits, places)}
    for many in range(min(most, len(plan.channels)) + 1):
        for falls in combinations(sorted(plan.channels), many):
            if any(is_lacking(plan, row, falls) for row in zones):
                return many
    return None


def is_crowd_danger(plan, limits, places, most, danger):
    """Whether a danger is one, by the words of the document."""
    for masts in (danger.falls, danger.masts):
        if any(masts.count(mast) != 1 or mast not in plan.channels for mast in masts):
            return False
    if len(danger.falls) > most:
        return False
    standing = dict(places)
    for step in danger.steps:
        if step not in steps_now(plan, limits, standing):
            return False
        standing[step[0]] = step[1]
    theirs = 0
    for zone in standing.values():
        up = set(plan.heard[zone]) - set(danger.falls)
        theirs += bool(up) and up <= set(danger.masts)
    return theirs > sum(plan.channels[mast] for mast in danger.masts if mast not in danger.falls)


def spoilt_crowd(random, plan, danger):
    """A danger with something changed, which may well be none any more."""
    falls, masts, steps = list(danger.falls), list(danger.masts), list(danger.steps)
    names = list(plan.channels) + ["q"]
    zones = list(plan.heard) + ["nowhere"]
    kind = random.randrange(8)
    if kind == 0:
        falls.append(random.choice(names))
    elif kind == 1:
        masts.append(random.choice(names))
    elif kind == 2:
        falls = falls[1:]
    elif kind == 3:
        masts = masts[1:]
    elif kind == 4:
        steps = steps[1:]
    elif kind == 5:
        steps = steps[:-1]
    elif kind == 6:
        steps.append((random.choice(["c0", "c1", "who"]), random.choice(zones)))
    elif steps:
        at = random.randrange(len(steps))
        steps[at] = random.choice([(steps[at][0], random.choice(zones)), ("who", steps[at][1])])
    return CrowdDanger(falls, masts, steps)
