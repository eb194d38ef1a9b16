"""Maps: zones, the masts that are heard there, and roads from zone to zone ([21])."""

from mastcalls.errors import BadScene
from mastcalls.helpers import has_key
from mastcalls.scenes import check_heard, check_mast, is_name


class Map:
    """Masts with their channels, zones, and roads, each one way."""

    def __init__(self, channels, heard, roads):
        for mast in channels:
            check_mast(mast, channels[mast])
        for zone in heard:
            check_zone(zone, heard[zone], channels)
        for road in roads:
            check_road(road, heard)
        self.channels = {mast: channels[mast] for mast in sorted(channels)}
        self.heard = {zone: tuple(sorted(heard[zone])) for zone in sorted(heard)}
        self.roads = tuple(sorted({tuple(road) for road in roads}))
        # A look through all roads at each zone would be slow on large maps.
        self.onward = {zone: [] for zone in self.heard}
        for zone, other in self.roads:
            self.onward[zone].append(other)

    def __eq__(self, other):
        return (isinstance(other, Map) and self.channels == other.channels and self.heard == other.heard
                and self.roads == other.roads)

    def next_zones(self, zone):
        """The zones to which a road leads from a zone."""
        return list(self.onward[zone])

    def reach(self, zone):
        """All zones that can be come to from a zone, and a shortest way to each of them."""
        ways = {zone: (zone,)}
        queue = [zone]
        at = 0
        while at < len(queue):
            here = queue[at]
            for other in self.onward[here]:
                if other not in ways:
                    ways[other] = ways[here] + (other,)
                    queue.append(other)
            at += 1
        return ways

    def up_masts(self, zone, down):
        """The masts that are heard in a zone and aren't down."""
        return tuple([mast for mast in self.heard[zone] if mast not in down])

    def room(self, masts):
        """How many channels some masts have together."""
        return sum([self.channels[mast] for mast in masts])


def check_zone(zone, heard, channels):
    """BadScene for a zone that is no name, or where masts are heard that can't be."""
    if not is_name(zone):
        raise BadScene("zone")
    check_heard(heard, channels)


def check_road(road, heard):
    """BadScene for what is no pair of zones that are there."""
    if not isinstance(road, (tuple, list)) or len(road) != 2:
        raise BadScene("road")
    if not all([has_key(heard, zone) for zone in road]):
        raise BadScene("road")
