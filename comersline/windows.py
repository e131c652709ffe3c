"""Windows: who opens one, and which lie around a person."""

from comersline.kinds import is_row, is_whole
from comersline.plans import check_person, pieces_of
from comersline.walks import last_step, outer_bound, runs_on


def windows_in(pieces, person):
    """The windows around one that comes by the pieces, the outermost first, its own the last.

    A window within another one has an opener of less patience, so they are at most as many
    as there are unlike patiences.
    """
    around = []
    start = 0
    bound = outer_bound(pieces)
    while start <= person:
        here, width = last_step(runs_on(pieces, start, bound, person))
        if width == 0:
            return around
        start = here + 1
        bound = here + width - 1
        around.append((here, bound))
    return around


def window_of(plan, person):
    """The window (opener, last) that a person opens, or None; NoPlan, NoPerson."""
    pieces = pieces_of(plan)
    check_person(pieces, person)
    around = windows_in(pieces, person)
    return around[-1] if around and around[-1][0] == person else None


def windows_around(plan, person):
    """The windows around a person, the outermost first, its own the last; NoPlan, NoPerson."""
    pieces = pieces_of(plan)
    check_person(pieces, person)
    return windows_in(pieces, person)


def is_same_window(thing, window):
    """Whether anything is a window, told as a tuple or as a list."""
    if not is_row(thing) or len(thing) != len(window):
        return False
    return all(is_whole(thing[at]) and thing[at] == window[at] for at in range(len(window)))


def is_around(plan, person, thing):
    """Whether anything is the list of the windows around a person; NoPlan, NoPerson."""
    around = windows_around(plan, person)
    if not is_row(thing) or len(thing) != len(around):
        return False
    return all(is_same_window(thing[at], around[at]) for at in range(len(around)))
