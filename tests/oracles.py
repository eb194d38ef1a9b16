"""Small scenes, and answers found by going through everything: what the program is held against."""

from itertools import combinations, product
from random import Random

from mastcalls.scenes import Call, Scene


def subsets(things):
    """All tuples of some of the things, the shorter ones first."""
    things = sorted(things)
    return [lot for many in range(len(things) + 1) for lot in combinations(things, many)]


def all_small_scenes(worths=(0, 1)):
    """All scenes of two masts with up to two channels, and three calls of these worths."""
    heards = subsets(("a", "b"))
    for many_a, many_b in product(range(3), repeat=2):
        for heard in product(heards, repeat=3):
            for worth in product(worths, repeat=3):
                calls = {name: Call(worth[at], heard[at]) for at, name in enumerate(("x", "y", "z"))}
                yield Scene({"a": many_a, "b": many_b}, calls)


def mixed_scene(random, most_channels=2, most_masts=4, most_calls=6):
    """Some scene of up to four masts and six calls."""
    masts = ["a", "b", "c", "d"][:random.randint(0, most_masts)]
    channels = {mast: random.randint(0, most_channels) for mast in masts}
    calls = {}
    for at in range(random.randint(0, most_calls)):
        heard = [mast for mast in masts if random.random() < 0.5]
        calls["c" + str(at)] = Call(random.randint(0, 2), heard)
    return Scene(channels, calls)


def mixed_scenes(many, seed, most_channels=2, most_masts=4, most_calls=6):
    """So many scenes, the same ones at each run."""
    random = Random(seed)
    return [mixed_scene(random, most_channels, most_masts, most_calls) for _ in range(many)]


def right_seatings(scene, names):
    """All right seatings of just these calls."""
    names = list(names)
    for masts in product(*[scene.calls[name].heard for name in names]):
        if all(masts.count(mast) <= scene.channels[mast] for mast in masts):
            yield dict(zip(names, masts))


def can_seat(scene, names):
    """Whether some right seating has just these calls."""
    return any(True for _ in right_seatings(scene, names))


def seatable_lots(scene):
    """All lots that are seatable, as sets."""
    return [set(lot) for lot in subsets(scene.calls) if can_seat(scene, lot)]


def beats(scene, lot, other):
    """Whether a lot is another one, or has the first call in which they differ."""
    for name in sorted(scene.calls, key=lambda call: (-scene.calls[call].worth, call)):
        if (name in lot) != (name in other):
            return name in lot
    return True


def best_lot(scene):
    """The seatable lot that beats all seatable lots."""
    lots = seatable_lots(scene)
    best = [lot for lot in lots if all(beats(scene, lot, other) for other in lots)]
    assert len(best) == 1
    return tuple(sorted(best[0]))


def is_paper(scene, seating, name, lot):
    """Whether a tuple of calls is a paper, by the words of the document."""
    if len(set(lot)) != len(lot) or name not in lot or any(call not in scene.calls for call in lot):
        return False
    mine = (-scene.calls[name].worth, name)
    for call in lot:
        if call != name and (call not in seating or (-scene.calls[call].worth, call) >= mine):
            return False
    hearing = {mast for call in lot for mast in scene.calls[call].heard}
    return len(lot) > sum(scene.channels[mast] for mast in hearing)


def count_moves(seating, before):
    """How many calls move."""
    return sum(1 for name in seating if before.get(name) != seating[name])


def fewest_moves(scene, lot, before):
    """How many calls move at least, of all right seatings of a lot."""
    return min(count_moves(seating, before) for seating in right_seatings(scene, lot))
