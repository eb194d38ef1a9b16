"""Channels that lack, and masts that fall ([10], [11])."""

from mastcalls.errors import BadName
from mastcalls.helpers import has_key, is_number, lots_up_to
from mastcalls.keeping import Kept, kept
from mastcalls.scenes import Call, Scene


def lacking(scene):
    """As few more channels as can be with which all calls that are heard are seatable."""
    # As many calls as can be are kept, so each other one that is heard lacks one channel.
    masts = [scene.calls[name].heard[0] for name in Kept(scene).papers if scene.calls[name].heard]
    return {mast: masts.count(mast) for mast in sorted(set(masts))}


def with_channels(scene, more):
    """The scene with so many more channels, or fewer."""
    return Scene({mast: scene.channels[mast] + more.get(mast, 0) for mast in scene.channels}, scene.calls)


def without(scene, masts):
    """The scene in which some masts are not, and hear nobody."""
    channels = {mast: scene.channels[mast] for mast in scene.channels if mast not in masts}
    calls = {}
    for name, call in scene.calls.items():
        calls[name] = Call(call.worth, [mast for mast in call.heard if mast not in masts])
    return Scene(channels, calls)


def lost_calls(scene):
    """How many calls aren't kept."""
    return len(scene.calls) - len(kept(scene))


def worst_falls(scene, most):
    """How many calls aren't kept at most when up to so many masts fall, and the first such lot."""
    if not is_number(most, 0, len(scene.channels)):
        raise BadName(most)
    worst = (lost_calls(scene), ())
    for masts in lots_up_to(scene.channels, most):
        lost = lost_calls(without(scene, masts))
        if lost > worst[0]:
            worst = (lost, masts)
    return worst


def sure_calls(scene, most):
    """The calls that are kept whichever up to so many masts fall."""
    sure = list(scene.calls)
    for masts in lots_up_to(scene.channels, most):
        lot = kept(without(scene, masts))
        sure = [name for name in sure if name in lot]
    return tuple(sure)


def spare(scene, mast):
    """How many channels a mast can lose so that never more calls aren't kept than now."""
    if not has_key(scene.channels, mast):
        raise BadName(mast)
    # Each channel of the mast lets one more call be kept, up to some number of channels,
    # and then none any more: so just as many are needed as calls are kept by all of them.
    needed = lost_calls(without(scene, (mast,))) - lost_calls(scene)
    return scene.channels[mast] - needed
