"""Works written as texts, and texts read as works."""

from sinkstack.checks import MOST_TIMES, POP_STEP, check_plan, check_work, signs_of
from sinkstack.errors import BadText

FIGURES = "0123456789"
BEGIN = "["
END = "]"


def written(plan, work):
    """The text of a work."""
    check_plan(plan)
    check_work(plan, work)
    return text_of_work(work)


def read(plan, text):
    """The work of a text."""
    check_plan(plan)
    if not isinstance(text, str):
        raise BadText(0)
    work = work_of_text(plan, text)
    check_work(plan, work)
    return work


def text_of_work(work):
    """The text of a work that was checked."""
    if work[0] == "push":
        return work[1]
    if work[0] == "pop":
        return POP_STEP
    if work[0] == "times":
        return BEGIN + text_of_work(work[2]) + END + str(work[1])
    return "".join([text_of_work(inner) for inner in work[1]])


def work_of_text(plan, text):
    """The row of all that stands in a text, however many works that are and however deep."""
    steps = signs_of(plan) + POP_STEP
    # The works of each row that has begun and not ended, the innermost row last.
    rows = [[]]
    place = 0
    while place < len(text):
        sign = text[place]
        if sign in steps:
            rows[-1].append(work_of_step(sign))
            place += 1
        elif sign == BEGIN:
            rows.append([])
            place += 1
        elif sign == END and len(rows) > 1:
            behind = place_behind_number(text, place + 1)
            inner = ("row", tuple(rows.pop()))
            rows[-1].append(("times", int(text[place + 1:behind]), inner))
            place = behind
        else:
            raise BadText(place)
    if len(rows) > 1:
        raise BadText(len(text))
    return ("row", tuple(rows[0]))


def work_of_step(step):
    """The work that is one push or pop."""
    if step == POP_STEP:
        return ("pop",)
    return ("push", step)


def place_behind_number(text, start):
    """The place behind the number that begins at start."""
    if not has_figure_at(text, start):
        raise BadText(start)
    place = start
    while has_figure_at(text, place):
        # Behind a 0 that begins a number no figure can stand, nor one that makes the number too great.
        if text[start:place] == "0" or int(text[start:place + 1]) > MOST_TIMES:
            raise BadText(place)
        place += 1
    return place


def has_figure_at(text, place):
    """Whether a figure stands at this place of a text."""
    return place < len(text) and text[place] in FIGURES
