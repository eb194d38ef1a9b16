"""Dangers played step by step: who would be left without a channel, and when ([23])."""

from mastcalls.keeping import Kept
from mastcalls.scenes import Call, Scene


def standing_scene(plan, places, down):
    """The scene of the masts that are up and of the calls in zones that one of them hears."""
    channels = {mast: plan.channels[mast] for mast in plan.channels if mast not in down}
    calls = {}
    for name, zone in places.items():
        heard = plan.up_masts(zone, down)
        if heard:
            calls[name] = Call(0, heard)
    return Scene(channels, calls)


def without_seat(plan, places, down):
    """The calls in zones that are heard and aren't kept."""
    return tuple(Kept(standing_scene(plan, places, down)).papers)


def steps_of(places, danger):
    """The standings by which calls go the ways of a danger, one call behind the other."""
    standing = {name: places[name] for name in sorted(places)}
    standings = [standing]
    for name in sorted(danger.ways):
        for zone in danger.ways[name][1:]:
            standing = dict(standing)
            standing[name] = zone
            standings.append(standing)
    return standings


def play(plan, places, danger):
    """The standings of a danger, each with who is without a seat then."""
    return [(standing, without_seat(plan, standing, danger.falls)) for standing in steps_of(places, danger)]


def first_lack(plan, places, danger):
    """The number of the first standing with somebody without a seat, and who they are; None without any."""
    for number, (_, lacking) in enumerate(play(plan, places, danger)):
        if lacking:
            return number, lacking
    return None
