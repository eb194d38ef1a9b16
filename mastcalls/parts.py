"""Parts of a town that have nothing to do with one another ([29])."""

from mastcalls.maps import Map
from mastcalls.safety import danger_for


def zones_of_parts(plan):
    """The zones of each part, ascending, the parts by their first zones."""
    neighbours = neighbours_of(plan)
    seen = {}
    parts = []
    for zone in plan.heard:
        if zone not in seen:
            part = all_joined(neighbours, zone)
            seen.update({other: True for other in part})
            parts.append(tuple(sorted(part)))
    return parts


def neighbours_of(plan):
    """For each zone those that are joined with it, but for what others join."""
    neighbours = {zone: [] for zone in plan.heard}
    for zone, other in joins_of(plan):
        neighbours[zone].append(other)
        neighbours[other].append(zone)
    return neighbours


def joins_of(plan):
    """Pairs of zones, by which all that are joined hang together."""
    pairs = list(plan.roads)
    for mast in plan.channels:
        zones = [zone for zone in plan.heard if mast in plan.heard[zone]]
        pairs.extend([(zones[0], zone) for zone in zones[1:]])
    return pairs


def all_joined(neighbours, zone):
    """All zones that are joined with a zone, one behind the other, and the zone itself."""
    found = {zone: True}
    queue = [zone]
    while queue:
        here = queue.pop()
        for other in neighbours[here]:
            if other not in found:
                found[other] = True
                queue.append(other)
    return list(found)


def parts_of(plan):
    """The maps of all parts."""
    return [part_with(plan, zones) for zones in zones_of_parts(plan)]


def part_with(plan, zones):
    """The map of some zones, the masts that are heard there, and the roads from there."""
    heard = {zone: plan.heard[zone] for zone in zones}
    masts = sorted({mast for row in heard.values() for mast in row})
    roads = [road for road in plan.roads if road[0] in heard]
    return Map({mast: plan.channels[mast] for mast in masts}, heard, roads)


def joined(one, other, roads):
    """The map of two towns without common names, and more roads."""
    channels = {mast: plan.channels[mast] for plan in (one, other) for mast in plan.channels}
    heard = {zone: plan.heard[zone] for plan in (one, other) for zone in plan.heard}
    return Map(channels, heard, list(one.roads) + list(other.roads) + list(roads))


def danger_by_parts(plan, places, most):
    """A danger of the first part that has one; None if none has."""
    for part in parts_of(plan):
        theirs = {name: zone for name, zone in places.items() if zone in part.heard}
        danger = danger_for(part, theirs, most)
        if danger is not None:
            return danger
    return None
