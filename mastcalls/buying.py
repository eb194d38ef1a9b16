"""Channels to buy, as cheaply as can be ([27])."""

from mastcalls.errors import BadName
from mastcalls.helpers import is_number
from mastcalls.keeping import Kept
from mastcalls.scenes import Call, Scene

DEAREST = 1000


def cheapest(scene, prices):
    """The least cost at which all calls that are heard get seats, and the channels to buy for it."""
    priced = priced_scene(scene, prices)
    # Who isn't kept is cheapest by its own cheapest mast: so the dearest are kept first.
    masts = [cheapest_mast(priced.calls[name], prices) for name in Kept(priced).papers]
    cost = sum([prices[mast] for mast in masts])
    return cost, {mast: masts.count(mast) for mast in sorted(set(masts))}


def saved(scene, prices):
    """How much less that is than a channel of the cheapest mast for each call that is heard."""
    priced = priced_scene(scene, prices)
    return sum([call.worth for call in priced.calls.values()]) - cheapest(scene, prices)[0]


def priced_scene(scene, prices):
    """The scene of the calls that are heard, each as worthy as its cheapest mast is dear."""
    for mast in scene.channels:
        if mast not in prices or not is_number(prices[mast], 0, DEAREST):
            raise BadName(mast)
    calls = {}
    for name, call in scene.calls.items():
        if call.heard:
            calls[name] = Call(prices[cheapest_mast(call, prices)], call.heard)
    return Scene(scene.channels, calls)


def cheapest_mast(call, prices):
    """The cheapest mast that hears a call."""
    return min(call.heard, key=lambda mast: prices[mast])
