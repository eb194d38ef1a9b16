"""What came of a row of deeds, why, and what would have come without one of them ([37])."""

from mastcalls.cores import Core
from mastcalls.errors import BadName


def told_by(deeds):
    """What came of each deed, None for one that couldn't be done."""
    core = Core()
    told = []
    for deed in deeds:
        try:
            told.append(core.do(deed))
        except BadName:
            told.append(None)
    return told


def numbered(told):
    """All events in turn, each with the number of its deed."""
    return [(number, event) for number, events in enumerate(told) if events is not None for event in events]


def history(deeds, call):
    """What became of a call: its events, with the numbers of their deeds."""
    told = told_by(deeds)
    end = ("end", call)
    own = [(number, event) for number, event in numbered(told) if event[0] != "list" and event[1] == call]
    # Nothing becomes of a call behind its end.
    return own + [(number, end) for number, deed in enumerate(deeds) if deed == end and told[number] is not None]


def blame(deeds, call):
    """The deed by which a call was given up, and by which the calls of its paper had got their seats."""
    told = told_by(deeds)
    for number, event in numbered(told):
        if event[0] == "gone" and event[1] == call:
            before = numbered(told[:number])
            return number, tuple([(name, seated_by(before, name)) for name in event[2]])
    return None


def seated_by(events, call):
    """The number of the deed by which a call got the seat that it has behind some events, None without one."""
    found = None
    for number, event in events:
        if event[1] == call and event[0] in ("seat", "rest"):
            found = number if event[0] == "seat" else None
    return found


def without_deed(deeds, at):
    """The row of all deeds but one."""
    return [deed for number, deed in enumerate(deeds) if number != at]


def changed_without(deeds, at):
    """The numbers of the other deeds of which something else would have come if one had not been."""
    told = told_by(deeds)
    others = told_by(without_deed(deeds, at))
    others.insert(at, told[at])
    return [number for number in range(len(told)) if told[number] != others[number]]


def lost_without(deeds, at):
    """Who is given up by all deeds alone, and who by all deeds but one alone."""
    lost = gone_in(deeds)
    others = gone_in(without_deed(deeds, at))
    return (tuple([name for name in lost if name not in others]), tuple([name for name in others if name not in lost]))


def gone_in(deeds):
    """The calls that are given up."""
    return sorted([event[1] for _, event in numbered(told_by(deeds)) if event[0] == "gone"])
