"""A town: whoever is taken is never given up ([25])."""

from mastcalls.errors import BadName
from mastcalls.helpers import has_key, put_in_order
from mastcalls.keeping import Kept
from mastcalls.moving import moves_of, reseated
from mastcalls.playing import standing_scene
from mastcalls.safety import danger_for
from mastcalls.scenes import is_name


class Town:
    """Calls that go about a map, of whose masts some may be down."""

    def __init__(self, plan, most):
        self.plan = plan
        self.most = most
        self.down = ()
        self.places = {}
        self.seating = {}
        self.refused = 0
        self.moved = 0

    def begin(self, name, zone):
        """Takes a call, and tells None, if there is no danger with it; else tells the danger."""
        self.check_new(name, zone)
        places = self.places_with(name, zone)
        return self.take(places, danger_for(self.plan, places, self.most))

    def check_new(self, name, zone):
        """BadName for a name that is none or there, or for no zone."""
        if not is_name(name) or name in self.places:
            raise BadName(name)
        if not has_key(self.plan.heard, zone):
            raise BadName(zone)

    def places_with(self, name, zone):
        """Where all calls are, with one more."""
        places = dict(self.places)
        put_in_order(places, name, zone)
        return places

    def take(self, places, danger):
        """Takes the calls of some places, unless there is a danger; the danger."""
        if danger is not None:
            self.refused += 1
            return danger
        self.places = places
        self.settle()
        return None

    def go(self, name, zone):
        """A call goes along one road; the calls that move."""
        self.check_call(name)
        if zone not in self.plan.next_zones(self.places[name]):
            raise BadName(zone)
        return self.bring(name, zone)

    def bring(self, name, zone):
        """A call is in another zone now, however it came there; the calls that move."""
        self.places[name] = zone
        return self.settle()

    def end(self, name):
        """A call ends; the calls that move."""
        self.check_call(name)
        del self.places[name]
        return self.settle()

    def fall(self, mast):
        """A mast goes down, if one more may be; the calls that move."""
        if not has_key(self.plan.channels, mast) or mast in self.down or len(self.down) >= self.most:
            raise BadName(mast)
        self.down = tuple(sorted(self.down + (mast,)))
        return self.settle()

    def rise(self, mast):
        """A mast goes up again; the calls that move."""
        if mast not in self.down:
            raise BadName(mast)
        self.down = tuple([other for other in self.down if other != mast])
        return self.settle()

    def check_call(self, name):
        """BadName for a call that isn't there."""
        if not has_key(self.places, name):
            raise BadName(name)

    def settle(self):
        """Seats all calls that are heard, with fewest moves; the calls that move."""
        scene = self.scene()
        before = self.seating
        # As no danger is there all of them are kept.
        self.seating = reseated(scene, Kept(scene).seating, before)
        moves = moves_of(self.seating, before)
        self.moved += len([name for name in moves if name in before])
        return moves

    def scene(self):
        """The masts that are up, and the calls that one of them hears."""
        return standing_scene(self.plan, self.places, self.down)

    def is_safe(self):
        """Whether no journey is a danger, whichever masts fall."""
        return danger_for(self.plan, self.places, self.most) is None
