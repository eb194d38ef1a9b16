"""Channels and masts with which a town could grow ([49], [50])."""

from heapq import heappop, heappush

from mastcalls.errors import BadName
from mastcalls.helpers import has_key, is_number, lots_up_to
from mastcalls.maps import Map
from mastcalls.safety import Roamers, danger_for
from mastcalls.scenes import LIMIT, is_name


def with_more(plan, more):
    """The map with so many more channels."""
    channels = {mast: plan.channels[mast] + more.get(mast, 0) for mast in plan.channels}
    return Map(channels, plan.heard, plan.roads)


def is_enough(plan, places, most, more):
    """Whether calls are in no danger with so many more channels."""
    return danger_for(with_more(plan, more), places, most) is None


def fewest_channels(plan, places, most):
    """As few more channels as can be with which calls are in no danger."""
    roamers = Roamers(plan, places, 0)
    needs = needs_of(roamers, most)
    counts = (0,) * len(roamers.masts)
    lacks = lacks_of(needs, counts)
    queue = []
    seen = {counts: True}
    # What a lot of masts lacks must come to one of them: so some fewest channels are found by going on
    # from each counts by one, those first that may have the least sum at the end.
    while lacks:
        for more in grown(counts, lacks[0][1]):
            if more not in seen:
                seen[more] = True
                heappush(queue, (sum(more) + least_sum(lacks_of(needs, more), len(more)), -sum(more), more))
        counts = heappop(queue)[2]
        lacks = lacks_of(needs, counts)
    return {mast: many for mast, many in zip(roamers.masts, counts) if many > 0}


def needs_of(roamers, most):
    """For each lot of masts to which more calls can come than it has channels, how many it lacks at most."""
    needs = {}
    for falls in lots_up_to(roamers.masts, most):
        for lot, room, comers in roamers.gatherings(falls):
            if comers > room:
                needs[lot] = max(comers - room, needs.get(lot, 0))
    return needs


def lacks_of(needs, counts):
    """How many channels lots of masts lack still with so many more, the greatest lack first."""
    lacks = []
    for lot, need in needs.items():
        more = sum([counts[at] for at in bits_of(lot, len(counts))])
        if more < need:
            lacks.append((need - more, lot))
    return sorted(lacks, reverse=True)


def bits_of(lot, many):
    """The places of the masts of a lot, among so many."""
    return [at for at in range(many) if (lot >> at) & 1 == 1]


def grown(counts, lot):
    """The counts with one more for one mast of a lot."""
    return [counts[:at] + (counts[at] + 1,) + counts[at + 1:] for at in bits_of(lot, len(counts))]


def least_sum(lacks, many):
    """No fewer channels can cure all lacks of lots of so many masts."""
    apart = 0
    taken = 0
    often = [0] * many
    for lack, lot in lacks:
        if (lot & taken) == 0:
            taken = taken | lot
            apart += lack
        for at in bits_of(lot, many):
            often[at] += 1
    # Each channel counts for as many lots as its mast is in.
    shared = sum([lack for lack, _ in lacks])
    return max(apart, -(-shared // max(often + [1])))


def with_masts(plan, sites, masts):
    """The map with some masts out of sites."""
    channels = dict(plan.channels)
    heard = {zone: list(plan.heard[zone]) for zone in plan.heard}
    for mast in masts:
        channels[mast] = sites[mast][0]
        for zone in sorted(set(sites[mast][1])):
            heard[zone].append(mast)
    return Map(channels, heard, plan.roads)


def fewest_masts(plan, places, most, sites):
    """The first of the shortest lots of masts out of sites with which calls are in no danger; None without any."""
    check_sites(plan, sites)
    for masts in lots_up_to(sites, len(sites)):
        if are_safe_with(plan, places, most, sites, masts):
            return masts
    return None


def safe_sites(plan, places, most, sites):
    """All lots of masts out of sites with which calls are in no danger, the shorter ones first."""
    check_sites(plan, sites)
    lots = lots_up_to(sites, len(sites))
    return [masts for masts in lots if are_safe_with(plan, places, most, sites, masts)]


def are_safe_with(plan, places, most, sites, masts):
    """Whether calls are in no danger with some masts out of sites."""
    return danger_for(with_masts(plan, sites, masts), places, most) is None


def check_sites(plan, sites):
    """BadName for the first site that can't be: its mast, its channels, or the first zone that isn't there."""
    for mast in sites:
        if not is_name(mast) or mast in plan.channels:
            raise BadName(mast)
        channels, zones = sites[mast]
        if not is_number(channels, 0, LIMIT):
            raise BadName(channels)
        for zone in zones:
            if not has_key(plan.heard, zone):
                raise BadName(zone)
