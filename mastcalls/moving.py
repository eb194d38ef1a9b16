"""Fewest moves from where calls were, and prices that show that fewer can't be ([9])."""

from mastcalls.keeping import Seats


def moves_of(seating, before):
    """The calls that move, seen from where they were."""
    return tuple(sorted([name for name in seating if move_cost(name, seating[name], before)]))


def move_cost(name, mast, before):
    """1 if the call would move by being on the mast, else 0."""
    return 0 if before.get(name) == mast else 1


def reseated(scene, seating, before):
    """A right seating of the same calls that moves as few as can be."""
    seats = Seats(scene)
    leaving = []
    for name in sorted(seating):
        if not stays(seats, name, before):
            leaving.append(name)
    # Each call that is led in by a cheapest way leaves no ring or way by which
    # one more could stay: so at the end none is left either.
    for name in leaving:
        costs, came = cheapest_ways(seats, name, before)
        ends = [mast for mast in costs if seats.has_room(mast)]
        seats.lead(min(ends, key=lambda mast: (costs[mast], mast)), came)
    return seats.seating


def stays(seats, name, before):
    """Seats a call where it was, if there is room; whether it was seated."""
    mast = before.get(name)
    if mast not in seats.scene.calls[name].heard or not seats.has_room(mast):
        return False
    seats.put(name, mast)
    return True


def cheapest_ways(seats, name, before):
    """How many more calls move, at least, by leading a new call in so that a mast gets one more:
    a dict from the masts that can be come to, and one of the ways, as way_for tells them."""
    came = {mast: (name, None) for mast in seats.scene.calls[name].heard}
    costs = {mast: move_cost(name, mast, before) for mast in came}
    queue = list(came)
    at = 0
    while at < len(queue):
        mast = queue[at]
        for call in seats.seated[mast]:
            left = costs[mast] - move_cost(call, mast, before)
            for other in seats.scene.calls[call].heard:
                cost = left + move_cost(call, other, before)
                if other not in costs or cost < costs[other]:
                    costs[other] = cost
                    came[other] = (call, mast)
                    queue.append(other)
        at += 1
    return costs, came


def prices_of(scene, seating, before):
    """Prices by which the bound is the number of moves of a seating with fewest moves."""
    loads = {mast: 0 for mast in scene.channels}
    for name in seating:
        loads[seating[name]] += 1
    # A mast with room must cost nothing; a full one as much as a way of moves from it to
    # a mast with room costs. Where there is none, any price will do that is no less than
    # a way can save, as many calls as there are masts at most.
    dearest = len(scene.channels)
    prices = {mast: 0 if loads[mast] < scene.channels[mast] else dearest for mast in loads}
    for _ in scene.channels:
        for name in seating:
            mast = seating[name]
            least = least_price(scene, name, before, prices) - move_cost(name, mast, before)
            prices[mast] = min(prices[mast], least)
    return prices


def least_price(scene, name, before, prices):
    """What a call costs on the cheapest mast that hears it: its price, and 1 for a move."""
    return min([prices[mast] + move_cost(name, mast, before) for mast in scene.calls[name].heard])


def bound_by(scene, lot, before, prices):
    """How many calls of a lot move at least in any right seating, by some prices."""
    asked = sum([least_price(scene, name, before, prices) for name in lot])
    return asked - sum([prices[mast] * scene.channels[mast] for mast in scene.channels])
