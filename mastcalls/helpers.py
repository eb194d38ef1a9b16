"""What several modules need: numbers within limits, and dicts whose keys ascend."""


def is_number(thing, low, high):
    """Whether a thing is an integer, and no bool, from low to high."""
    return isinstance(thing, int) and not isinstance(thing, bool) and low <= thing <= high


def has_key(table, thing):
    """Whether any thing, also one that can be no key, is a key of a dict from names."""
    return isinstance(thing, str) and thing in table


def put_in_order(table, key, value):
    """Sets a key of a dict whose keys ascend, in such a way that they still do."""
    later = [] if key in table else [other for other in table if other > key]
    table[key] = value
    for other in later:
        table[other] = table.pop(other)
