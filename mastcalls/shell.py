"""Scripts for a core: deeds and questions, line by line ([20])."""

from mastcalls.capacity import lacking, spare, without, worst_falls
from mastcalls.cores import Core
from mastcalls.deeds import is_written_number, read_deed
from mastcalls.errors import BadName, BadText

# How many words a question has; any number of masts may stand behind lacks.
QUESTIONS = {"seats": 1, "lacks": None, "worst": 2, "spare": 2, "ticks": 2}


def run_script(text):
    """The lines that come of the lines of a script."""
    core = Core()
    told = []
    for line, row in enumerate(text.split("\n")):
        words = row.split(" ")
        if words[0] in QUESTIONS:
            check_question(core, words, line)
            told.extend(answer(core, words))
        else:
            told.extend(do_line(core, row, line))
    return told


def do_line(core, row, line):
    """The lines that come of a deed."""
    deed = read_deed(row, line)
    try:
        return [event_line(event) for event in core.do(deed)]
    except BadName:
        return ["no " + row]


def event_line(event):
    """The line of an event of the core."""
    if event[0] == "gone":
        return " ".join(["gone", event[1], "by"] + list(event[2]))
    if event[0] == "list":
        rows = [f"{call}:{epoch}" for call, epoch in event[3]]
        return " ".join(["list", event[1], str(event[2])] + rows)
    return " ".join([str(part) for part in event])


def check_question(core, words, line):
    """BadText for a question with too few or too many words, else for its first word that can't stand there."""
    many = QUESTIONS[words[0]]
    if many is not None and len(words) != many:
        raise BadText(line, min(len(words), many))
    for at in range(1, len(words)):
        if not is_right_word(core, words[0], words[at]):
            raise BadText(line, at)


def is_right_word(core, question, word):
    """Whether a question can be asked of a word."""
    if question == "worst":
        return is_written_number(word) and int(word) <= len(core.channels) - len(core.down)
    if question == "ticks":
        return word in core.lines or word in core.gone
    return word in core.channels and word not in core.down


def answer(core, words):
    """The lines that answer a question."""
    question = words[0]
    if question == "seats":
        return [f"at {call} {mast}" for call, mast in core.seats_now().items()]
    if question == "lacks":
        lacks = lacking(without(core.present(), words[1:]))
        return [f"lacks {mast} {many}" for mast, many in lacks.items()]
    if question == "worst":
        many, masts = worst_falls(core.present(), int(words[1]))
        return [" ".join(["worst", str(many)] + list(masts))]
    if question == "spare":
        return [f"spare {words[1]} {spare(core.present(), words[1])}"]
    return [f"ticks {words[1]} {core.ticks_of(words[1])}"]
