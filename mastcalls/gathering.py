"""Crowded zones with roads both ways, and towns of them ([42], [43])."""

from mastcalls.crowds import danger_of_crowd, lets_in
from mastcalls.errors import BadName, BadScene
from mastcalls.maps import Map
from mastcalls.towns import Town


def are_both_ways(plan):
    """Whether for each road there is one back."""
    return all([zone in plan.next_zones(other) for zone, other in plan.roads])


class Gathering:
    """Calls in zones that hang together by roads both ways: so nothing but the zones' limits bars them."""

    def __init__(self, plan, limits, places):
        self.plan = open_map(plan, limits)
        self.limits = limits
        self.places = places
        # The zones of each part where calls can be, and how many calls these are.
        self.parts = []
        self.zones = []
        for zone in places.values():
            if zone not in self.zones:
                part = list(self.plan.reach(zone))
                self.parts.append((part, count_in(places, part)))
                self.zones.extend(part)

    def most_in(self, zones):
        """How many calls can be in some zones at a time."""
        wanted = {zone: True for zone in zones}
        return sum([self.most_inside(part, many, wanted) for part, many in self.parts])

    def most_inside(self, part, many, wanted):
        """How many of the calls of a part can be in the zones that are wanted: all, if these let in so many."""
        room = 0
        for zone in part:
            if zone in wanted:
                room += self.limits.get(zone, many)
        return min(many, room)

    def steps_into(self, zones):
        """Steps behind which so many calls are in some zones."""
        wanted = {zone: True for zone in zones}
        standing = dict(self.places)
        steps = []
        for part, many in self.parts:
            inside = [zone for zone in part if zone in wanted]
            lacking = self.most_inside(part, many, wanted) - count_in(standing, inside)
            for _ in range(lacking):
                steps.extend(hand_on(standing, self.way_out(standing, inside)))
        return steps

    def way_out(self, standing, inside):
        """A shortest way from one of some zones, which lets one more in, to a call outside of them."""
        free = [zone for zone in inside if lets_in(self.limits, zone, count_in(standing, [zone]))]
        ways = self.plan.reach(free[0])
        return min([ways[zone] for zone in standing.values() if zone in ways and zone not in inside], key=len)


def open_map(plan, limits):
    """The map without the zones that let nobody in."""
    heard = {zone: plan.heard[zone] for zone in plan.heard if lets_in(limits, zone, 0)}
    roads = [(zone, other) for zone, other in plan.roads if zone in heard and other in heard]
    return Map(plan.channels, heard, roads)


def count_in(places, zones):
    """How many calls are in some zones."""
    wanted = {zone: True for zone in zones}
    return len([zone for zone in places.values() if zone in wanted])


def hand_on(standing, way):
    """Steps that bring one call more to the first zone of a way, where a place is free, and leave one less
    at its last zone: the free place is handed on from call to call."""
    steps = []
    free = 0
    for at in range(1, len(way)):
        calls = sorted([name for name in standing if standing[name] == way[at]])
        if calls:
            steps.extend([(calls[0], zone) for zone in reversed(way[free:at])])
            standing[calls[0]] = way[free]
            free = at
    return steps


def quick_danger(plan, limits, places, most):
    """A danger for a standing on a map whose roads go both ways, fewest falls first; None without any."""
    return danger_of_crowd(Gathering(plan, limits, places), most)


class CrowdTown(Town):
    """A town whose zones let in only so many, and whose roads go both ways."""

    def __init__(self, plan, limits, most):
        if not are_both_ways(plan):
            raise BadScene("road")
        super().__init__(plan, most)
        self.limits = dict(limits)

    def begin(self, name, zone):
        """Takes a call, and tells None, if there is no danger with it; else tells the danger."""
        self.check_new(name, zone)
        self.check_room(zone)
        places = self.places_with(name, zone)
        return self.take(places, quick_danger(self.plan, self.limits, places, self.most))

    def go(self, name, zone):
        """A call goes along one road to another zone; the calls that move."""
        self.check_call(name)
        if zone == self.places[name] or zone not in self.plan.next_zones(self.places[name]):
            raise BadName(zone)
        self.check_room(zone)
        return self.bring(name, zone)

    def check_room(self, zone):
        """BadName for a zone that lets nobody more in."""
        if not lets_in(self.limits, zone, count_in(self.places, [zone])):
            raise BadName(zone)

    def is_safe(self):
        """Whether no steps lead into a danger, whichever masts fall."""
        return quick_danger(self.plan, self.limits, self.places, self.most) is None
