"""Plans as texts: written, and read back."""

from comersline.errors import NoText
from comersline.figures import figures_or, is_number_or, number_or
from comersline.plans import check_plan

# What stands for None, of a patience and of how many come.
NEVER = "never"
EVER = "ever"


def show_piece(turns, many):
    """The text of a piece."""
    words = [figures_or(patience, NEVER) for patience in turns]
    return " ".join([*words, "x", figures_or(many, EVER)])


def show_plan(plan):
    """The text of a plan; NoPlan."""
    check_plan(plan)
    return ", ".join([show_piece(turns, many) for turns, many in plan])


def has_form(words):
    """Whether the words of a piece have a form, whatever their numbers are worth."""
    if len(words) < 3 or words[-2] != "x" or not is_number_or(words[-1], EVER):
        return False
    return all(is_number_or(word, NEVER) for word in words[:-2])


def read_plan(text):
    """The plan that a text tells; NoText, NoPlan."""
    if not isinstance(text, str):
        raise NoText(None)
    plan = []
    for sign, piece in enumerate(text.split(", ")):
        words = piece.split(" ")
        if not has_form(words):
            raise NoText(sign)
        turns = [number_or(word, NEVER) for word in words[:-2]]
        plan.append((turns, number_or(words[-1], EVER)))
    check_plan(plan)
    return plan
