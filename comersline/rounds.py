"""Rounds of plans without end, and all goings past together."""

from comersline.errors import NoEnd
from comersline.plans import check_moment, many_in, pieces_of
from comersline.walks import last_step, runs_on, window_kind


def round_in(pieces):
    """The round of pieces without end.

    Where nothing bounds a level, each turn of a piece takes the same step wherever it is met.
    """
    first, past, turns = pieces[-1]
    person = 0
    if first > 0:
        here, width = last_step(runs_on(pieces, 0, None, first - 1))
        person = here + max(width, 1)
    met = {}
    while (person - first) % len(turns) not in met:
        turn = (person - first) % len(turns)
        met[turn] = person
        person += 1 if turns[turn] is None else turns[turn] + 1
    earlier = met[(person - first) % len(turns)]
    return earlier, person - earlier


def round_of(plan):
    """The round (first, many) of a plan; NoPlan, NoEnd."""
    pieces = pieces_of(plan)
    if many_in(pieces) is not None:
        raise NoEnd("the plan ends")
    return round_in(pieces)


def passes_by(plan, moment):
    """How often somebody went past somebody by a moment, all together; NoPlan, NoMoment."""
    pieces = pieces_of(plan)
    check_moment(pieces, moment)
    return passes_on(pieces, 0, moment - 1, {})


def passes_on(pieces, start, bound, known):
    """How often somebody went past somebody on a level, when all up to its bound have come."""
    total = 0
    for run in runs_on(pieces, start, bound, bound):
        # How many fewer go past those of the later rounds than past the same of the first one.
        fewer = run.length * (run.times * (run.times - 1) // 2)
        for person, width in run.steps:
            if width == 0:
                total += run.times * (bound - person) - fewer
            else:
                total += run.times * passes_within(pieces, person, person + width - 1, known)
    return total


def passes_within(pieces, opener, last, known):
    """The same in a window, past its opener too; those of known kinds of windows are kept."""
    kind = window_kind(pieces, opener, last)
    if kind not in known:
        known[kind] = last - opener + passes_on(pieces, opener + 1, last, known)
    return known[kind]
