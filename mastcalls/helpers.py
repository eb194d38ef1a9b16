"""What several modules need: numbers within limits, dicts whose keys ascend, letters at places, lots of names."""

from itertools import combinations

from mastcalls.errors import BadName


def is_number(thing, low, high):
    """Whether a thing is an integer, and no bool, from low to high."""
    return isinstance(thing, int) and not isinstance(thing, bool) and low <= thing <= high


def has_key(table, thing):
    """Whether any thing, also one that can be no key, is a key of a dict from names."""
    return isinstance(thing, str) and thing in table


def put_in_order(table, key, value):
    """Sets a key of a dict whose keys ascend, in such a way that they still do."""
    later = [] if key in table else [other for other in table if other > key]
    table[key] = value
    for other in later:
        table[other] = table.pop(other)


def take_letter(letters, at, is_kept):
    """The letter at a place, which stays if it is kept; BadName for a place without one."""
    if not is_number(at, 0, len(letters) - 1):
        raise BadName(at)
    letter = letters[at]
    if not is_kept:
        del letters[at]
    return letter


def lots_up_to(names, most):
    """All lots of up to so many names, the shorter ones first, of one length ascending."""
    row = sorted(names)
    lots = []
    for many in range(min(most, len(row)) + 1):
        lots.extend(list(combinations(row, many)))
    return lots
