"""Small drawn maps, and what can happen on them, found by going through everything."""

from functools import lru_cache
from itertools import combinations, product
from random import Random

from mastcalls.maps import Map
from mastcalls.safety import Danger

MASTS = ["a", "b", "c", "d"]
ZONES = ["hill", "dale", "lake", "moor"]


def drawn_map(random, most_masts=3, most_zones=4, most_channels=2, most_roads=6, most_heard=2):
    """Some map; its masts, zones and roads are handed in in no order."""
    masts = random.sample(MASTS, random.randint(0, most_masts))
    zones = random.sample(ZONES, random.randint(0, most_zones))
    heard = {zone: random.sample(masts, random.randint(0, min(len(masts), most_heard))) for zone in zones}
    roads = []
    if zones:
        roads = [(random.choice(zones), random.choice(zones)) for _ in range(random.randint(0, most_roads))]
    return Map({mast: random.randint(0, most_channels) for mast in masts}, heard, roads)


def drawn_maps(many, seed, **limits):
    """So many maps, the same ones at each run."""
    random = Random(seed)
    return [drawn_map(random, **limits) for _ in range(many)]


def drawn_places(random, plan, most_calls=4):
    """Some calls in zones of a map."""
    zones = list(plan.heard)
    if not zones:
        return {}
    return {"c" + str(at): random.choice(zones) for at in range(random.randint(0, most_calls))}


def copy_of(plan):
    """Another map that is the same."""
    return Map(dict(plan.channels), dict(plan.heard), list(plan.roads))


def walks_from(plan, zone):
    """All rows of zones along roads, of no more steps than there are zones, the shorter ones first."""
    walks = [(zone,)]
    at = 0
    while at < len(walks):
        if len(walks[at]) <= len(plan.heard):
            walks += [walks[at] + (road[1],) for road in plan.roads if road[0] == walks[at][-1]]
        at += 1
    return walks


def ends_from(plan, zone):
    """A dict from all zones that can be come to, to how many zones a shortest way there has."""
    known, grown = {}, {zone: 1}
    while known != grown:
        known, grown = grown, dict(grown)
        for one, other in plan.roads:
            if one in known:
                grown[other] = min(known[one] + 1, known.get(other, known[one] + 1))
    return known


@lru_cache(maxsize=None)
def can_all_be_seated(channels, heard):
    """Whether calls can be seated, by trying all masts for the first one, then for the next; of rows of pairs."""
    if not heard:
        return True
    rooms = dict(channels)
    for mast in heard[0]:
        if rooms[mast] > 0:
            fewer = tuple((other, room - (other == mast)) for other, room in channels)
            if can_all_be_seated(fewer, heard[1:]):
                return True
    return False


def is_lacking(plan, zones, down):
    """Whether, of calls in some zones, not all that are heard can be seated."""
    heard = [tuple(mast for mast in plan.heard[zone] if mast not in down) for zone in zones]
    return not can_all_be_seated(tuple(plan.channels.items()), tuple(sorted(masts for masts in heard if masts)))


def is_dangerous(plan, places, down):
    """Whether some journey leaves somebody without a channel."""
    ends = [sorted(ends_from(plan, zone)) for zone in places.values()]
    standings = {tuple(sorted(zones)) for zones in product(*ends)}
    return any(is_lacking(plan, zones, down) for zones in standings)


def first_falls(plan, places, most):
    """The first lot of masts, fewest first, that makes a journey dangerous by being down; None without any."""
    for many in range(min(most, len(plan.channels)) + 1):
        for falls in combinations(sorted(plan.channels), many):
            if is_dangerous(plan, places, falls):
                return falls
    return None


def is_along(plan, way):
    """Whether some zones, one at least, are along roads."""
    if way == () or any(zone not in plan.heard for zone in way):
        return False
    return all(step in plan.roads for step in zip(way, way[1:]))


def is_shown(plan, places, most, danger):
    """Whether a danger is one, by the words of the document."""
    for masts in (danger.falls, danger.masts):
        if any(masts.count(mast) != 1 or mast not in plan.channels for mast in masts):
            return False
    if len(danger.falls) > most:
        return False
    for call, way in danger.ways.items():
        if call not in places or not is_along(plan, way) or way[0] != places[call]:
            return False
        up = set(plan.heard[way[-1]]) - set(danger.falls)
        if not up or not up <= set(danger.masts):
            return False
    return len(danger.ways) > sum(plan.channels[mast] for mast in danger.masts if mast not in danger.falls)


def is_least(plan, places, danger):
    """Whether each way of a danger is a shortest one to any zone where only its masts are heard."""
    for call, way in danger.ways.items():
        theirs = []
        for zone, many in ends_from(plan, places[call]).items():
            up = set(plan.heard[zone]) - set(danger.falls)
            if up and up <= set(danger.masts):
                theirs.append(many)
        if len(way) != min(theirs):
            return False
    return True


def spoilt(random, plan, danger):
    """A danger with something changed, which may well be none any more."""
    falls, masts, ways = list(danger.falls), list(danger.masts), dict(danger.ways)
    names = list(plan.channels) + ["q"]
    zones = list(plan.heard) + ["nowhere"]
    calls = [name for name in ways] + ["c0", "c3", "who"]
    kind = random.randrange(8)
    if kind == 0:
        falls.append(random.choice(names))
    elif kind == 1:
        masts.append(random.choice(names))
    elif kind == 2:
        falls = falls[1:]
    elif kind == 3:
        masts = masts[1:]
    elif kind == 4:
        ways.pop(random.choice(calls), None)
    elif kind == 5:
        ways[random.choice(calls)] = tuple(random.choice(zones) for _ in range(random.randint(0, 3)))
    elif kind == 6:
        call = random.choice(calls)
        ways[call] = ways.get(call, ())[1:]
    else:
        call = random.choice(calls)
        ways[call] = ways.get(call, ()) + (random.choice(zones),)
    return Danger(falls, masts, ways)
