"""Tours of a call, tick by tick: as few pieces on one mast as can be ([28])."""

from mastcalls.helpers import is_number


def pieces_of(rows):
    """As few pieces (mast, first tick, last tick) as can be that cover the ticks at which a mast hears the call."""
    pieces = []
    tick = 0
    while tick < len(rows):
        if rows[tick]:
            # Who lasts longest leads farthest: no other pieces can be ahead of these.
            mast = max(rows[tick], key=lambda other: last_tick(rows, other, tick))
            pieces.append((mast, tick, last_tick(rows, mast, tick)))
            tick = pieces[-1][2]
        tick += 1
    return pieces


def last_tick(rows, mast, first):
    """The last tick up to which a mast hears the call all the while from one on."""
    last = first
    while last + 1 < len(rows) and mast in rows[last + 1]:
        last += 1
    return last


def covers(rows, pieces):
    """Whether some pieces, one behind the other, cover just the ticks at which a mast hears the call."""
    covered = []
    for mast, first, last in pieces:
        if not is_number(first, 0, len(rows) - 1) or not is_number(last, first, len(rows) - 1):
            return False
        if last_tick(rows, mast, first) < last or mast not in rows[first]:
            return False
        covered.extend(list(range(first, last + 1)))
    return covered == [tick for tick in range(len(rows)) if rows[tick]]


def stops_of(rows):
    """The first ticks of the pieces: none fewer can be, as no mast leads from one to the next."""
    return [piece[1] for piece in pieces_of(rows)]


def shows_many(rows, stops):
    """Whether as many pieces as some ticks are needed, as no mast leads from any of them to the next one."""
    for at, tick in enumerate(stops):
        if not is_number(tick, 0, len(rows) - 1) or not rows[tick]:
            return False
        if at > 0 and (tick <= stops[at - 1] or is_led(rows, stops[at - 1], tick)):
            return False
    return True


def is_led(rows, first, last):
    """Whether one mast hears the call from one tick to another one."""
    return any([last_tick(rows, mast, first) >= last for mast in rows[first]])
