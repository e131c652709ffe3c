"""Who goes past whom: the last newcomer of each, and who is not safe."""

from comersline.errors import NoMoment, NoOther
from comersline.plans import check_moment, check_person, pieces_of
from comersline.walks import last_opener, outer_bound, runs_on, spare_on
from comersline.windows import windows_in


def last_in(pieces, person):
    """The last one that goes past a person that comes by the pieces, or None without end."""
    around = windows_in(pieces, person)
    return around[-1][1] if around else outer_bound(pieces)


def last_of(plan, person):
    """The last of a person, or None where there is no end to them; NoPlan, NoPerson."""
    pieces = pieces_of(plan)
    check_person(pieces, person)
    return last_in(pieces, person)


def went_past(plan, person, moment):
    """How many went past a person by a moment; NoPlan, NoPerson, NoMoment."""
    pieces = pieces_of(plan)
    check_person(pieces, person)
    check_moment(pieces, moment)
    if moment <= person:
        raise NoMoment("the person has not come by that moment")
    last = last_in(pieces, person)
    newest = moment - 1
    return newest - person if last is None else min(last, newest) - person


def who_ahead(plan, one, other):
    """The one of two people that stands ahead; NoPlan, NoPerson, NoOther."""
    pieces = pieces_of(plan)
    check_person(pieces, one)
    check_person(pieces, other)
    if one == other:
        raise NoOther("that is the same person twice")
    older = min(one, other)
    newer = max(one, other)
    last = last_in(pieces, older)
    return newer if last is None or last >= newer else older


def runs_to(plan, moment):
    """The runs along the windows with none around them, as if nobody came from a moment on.

    Whoever that leaves over there is not safe by then, and nobody else; NoPlan, NoMoment.
    """
    pieces = pieces_of(plan)
    check_moment(pieces, moment)
    return runs_on(pieces, 0, moment - 1, moment - 1)


def unsafe_at(plan, moment):
    """How many are not safe at a moment; NoPlan, NoMoment."""
    return spare_on(runs_to(plan, moment))


def refuser_at(plan, moment):
    """The one farthest back that has no patience left at a moment, or None; NoPlan, NoMoment."""
    return last_opener(runs_to(plan, moment))
