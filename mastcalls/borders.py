"""Two towns with roads between them, and a core each: a call is taken by both before it may roam ([46] to [48])."""

from mastcalls.errors import BadName, BadScene
from mastcalls.helpers import has_key, is_number, put_in_order, take_letter
from mastcalls.maps import Map
from mastcalls.scenes import is_name
from mastcalls.towns import Town


def check_homes(plan, homes):
    """BadScene unless each zone has a core, and no mast is heard in zones of both."""
    for zone in plan.heard:
        if zone not in homes or not is_number(homes[zone], 0, 1):
            raise BadScene("home")
    for mast in plan.channels:
        if len({homes[zone] for zone in plan.heard if mast in plan.heard[zone]}) > 1:
            raise BadScene("home")


def view_of(plan, homes, at):
    """The map as a core sees it: in the other one's zones it hears nothing."""
    heard = {zone: row if homes[zone] == at else () for zone, row in plan.heard.items()}
    masts = sorted({mast for row in heard.values() for mast in row})
    return Map({mast: plan.channels[mast] for mast in masts}, heard, plan.roads)


class Side:
    """One of the two cores: its own book of the calls that are, or may come, where its masts are heard."""

    # Letters are tuples of a word, the core to which they go, a call, and what is told of it.

    def __init__(self, at, view, most):
        self.at = at
        self.town = Town(view, most)
        self.asked = {}
        # Calls that the other core may know; what was answered to it, None for a yes; calls of which it
        # must be told that they ended; calls that it told to have ended.
        self.shared = {}
        self.answers = {}
        self.ending = {}
        self.ended = {}

    def opens(self):
        """The letters that must be sent again, as they aren't answered."""
        other = 1 - self.at
        asks = [("ask", other, name, zone) for name, zone in self.asked.items()]
        return asks + [("end", other, name, None) for name in self.ending]

    def ask(self, name, zone):
        """A call of its own waits for the other core's word."""
        put_in_order(self.asked, name, zone)
        self.shared[name] = True
        return ("ask", 1 - self.at, name, zone)

    def answer(self, name, zone):
        """The answer to an ask of the other core, once for all; None for a call that has ended already."""
        if name in self.ended:
            return None
        if name not in self.answers:
            self.answers[name] = self.town.begin(name, zone)
            self.shared[name] = True
        return ("answer", 1 - self.at, name, self.answers[name])

    def finish(self, name):
        """A call ends here; the letter that tells it, None if the other core can't know the call."""
        self.forget(name)
        if name not in self.shared:
            return None
        put_in_order(self.ending, name, True)
        return ("end", 1 - self.at, name, None)

    def note_end(self, name):
        """The other core told that a call has ended; the answer."""
        self.ended[name] = True
        if name in self.town.places:
            self.forget(name)
        return ("ended", 1 - self.at, name, None)

    def forget(self, name):
        """A call is not there any more."""
        self.town.end(name)
        if name in self.asked:
            del self.asked[name]

    def is_told(self, name):
        """The end of a call is known to the other core."""
        if name in self.ending:
            del self.ending[name]


class Border:
    """A map of two cores, all calls on it, and letters that may be lost, doubled or late."""

    def __init__(self, plan, homes, mosts):
        check_homes(plan, homes)
        self.plan = plan
        self.homes = dict(homes)
        self.cores = tuple([Side(at, view_of(plan, homes, at), most) for at, most in enumerate(mosts)])
        self.where = {}
        self.refused = {}
        self.letters = []
        self.begun = {}

    def begin(self, name, zone):
        """A call begins; how it stands with it then."""
        if not is_name(name) or name in self.begun:
            raise BadName(name)
        if not has_key(self.plan.heard, zone):
            raise BadName(zone)
        self.begun[name] = True
        core = self.cores[self.homes[zone]]
        danger = core.town.begin(name, zone)
        if danger is not None:
            put_in_order(self.refused, name, danger)
            return "refused"
        put_in_order(self.where, name, zone)
        if all([self.homes[other] == core.at for other in self.plan.reach(zone)]):
            return "taken"
        self.letters.append(core.ask(name, zone))
        return "asked"

    def is_taken(self, name):
        """Whether a call is there and waits for no word."""
        return has_key(self.where, name) and not any([name in core.asked for core in self.cores])

    def go(self, name, zone):
        """A call goes along one road."""
        self.check_call(name)
        here = self.where[name]
        if zone not in self.plan.next_zones(here):
            raise BadName(zone)
        core, other = self.cores[self.homes[here]], self.cores[self.homes[zone]]
        if core.at != other.at and not self.is_taken(name):
            raise BadName(zone)
        core.town.go(name, zone)
        if core.at != other.at:
            # In its book the call may be elsewhere, but can come from there to this zone.
            other.town.bring(name, zone)
        self.where[name] = zone

    def end(self, name):
        """A call ends; the core where it is forgets it, and tells the other one if that may know it."""
        self.check_call(name)
        letter = self.cores[self.homes[self.where[name]]].finish(name)
        del self.where[name]
        self.post(letter)

    def post(self, letter):
        """Puts a letter behind the others, if there is one."""
        if letter is not None:
            self.letters.append(letter)

    def check_call(self, name):
        """BadName for a call that isn't there."""
        if not has_key(self.where, name):
            raise BadName(name)

    def send(self, at):
        """A core sends all letters that aren't answered."""
        self.letters.extend(self.cores[at].opens())

    def deliver(self, at, is_kept):
        """The letter at a place comes, and stays if it is kept."""
        word, to, name, told = take_letter(self.letters, at, is_kept)
        core = self.cores[to]
        if word == "ask":
            self.post(core.answer(name, told))
        elif word == "end":
            self.post(core.note_end(name))
        elif word == "ended":
            core.is_told(name)
        elif name in core.asked:
            self.hear(core, name, told)

    def hear(self, core, name, danger):
        """The answer of the other core comes to one that waits for it: None for a yes, else a danger."""
        if danger is None:
            del core.asked[name]
            return
        core.forget(name)
        del self.where[name]
        put_in_order(self.refused, name, danger)

    def lose(self, at):
        """The letter at a place never comes."""
        take_letter(self.letters, at, False)

    def quiet(self):
        """A round in which all is sent, and nothing is lost."""
        for core in self.cores:
            self.send(core.at)
        while self.letters:
            self.deliver(0, False)

    def fall(self, mast):
        """A mast goes down; the calls that move."""
        return self.town_of(mast).fall(mast)

    def rise(self, mast):
        """A mast goes up again; the calls that move."""
        return self.town_of(mast).rise(mast)

    def town_of(self, mast):
        """The town whose mast it is."""
        for core in self.cores:
            if has_key(core.town.plan.channels, mast):
                return core.town
        raise BadName(mast)

    def are_safe(self):
        """Whether both towns are, by their own books."""
        return all([core.town.is_safe() for core in self.cores])
