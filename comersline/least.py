"""Least plans, and whether two plans make one queue."""

from comersline.plans import check_moment, many_in, pieces_of, piece_number, turn_at
from comersline.rounds import round_in
from comersline.walks import outer_bound, runs_on, window_kind


def used_in(pieces):
    """How much of each patience is ever used: for each piece a list by the places of its round."""
    used = [[0 for patience in turns] for first, past, turns in pieces]
    bound = outer_bound(pieces)
    stop = bound
    if bound is None:
        # Whoever comes later on that level is in all as one of those a round earlier.
        first, many = round_in(pieces)
        stop = first + many - 1
    windows = use_level(pieces, 0, bound, stop, used)
    known = {}
    while windows:
        opener, last = windows.pop()
        kind = window_kind(pieces, opener, last)
        if kind not in known:
            known[kind] = True
            windows.extend(use_level(pieces, opener + 1, last, last, used))
    return used


def use_level(pieces, start, bound, stop, used):
    """Notes how much those on a level use; tells the windows there, of those alike one at least.

    Of those that one step meets over and over the first is gone past the most often.
    """
    windows = []
    for run in runs_on(pieces, start, bound, stop):
        for person, width in run.steps:
            at, turn = turn_at(pieces, person)
            if width > 0:
                windows.append((person, person + width - 1))
                note_use(used[at], turn, width - 1)
            else:
                note_use(used[at], turn, None if bound is None else bound - person)
    return windows


def note_use(used, turn, many):
    """Notes that so many went past one at a place of the round, or None without end."""
    if many is None or used[turn] is None:
        used[turn] = None
    else:
        used[turn] = max(used[turn], many)


def least_plan(plan):
    """The least plan of a plan; NoPlan."""
    pieces = pieces_of(plan)
    least = []
    for piece, used in zip(pieces, used_in(pieces)):
        first, past, turns = piece
        least.append((used, None if past is None else past - first))
    return least


def common_length(one, other):
    """The least length into which two lengths of rounds both go."""
    length = one
    while length % other != 0:
        length += one
    return length


def cut_like(pieces, others):
    """The same people as pieces, cut wherever one of others begins, too, with longer rounds.

    Both cut like one another have the same pieces, round by round as long.
    """
    many = many_in(pieces)
    starts = sorted({piece[0] for piece in pieces + others if piece[0] != many})
    cut = []
    for first, past in zip(starts, starts[1:] + [many]):
        at = piece_number(pieces, first)
        start, end, turns = pieces[at]
        length = common_length(len(turns), len(others[piece_number(others, first)][2]))
        longer = [turns[(first - start + place) % len(turns)] for place in range(length)]
        cut.append((first, past, longer))
    return cut


def do_alike(pieces, others):
    """Whether pieces make the same queue at each moment as others that bring as many.

    They do just where their least patiences are the same.
    """
    if many_in(pieces) == 0:
        return True
    return used_in(cut_like(pieces, others)) == used_in(cut_like(others, pieces))


def are_alike(plan, other):
    """Whether two plans make the same queue at each moment; NoPlan, of the one or the other."""
    pieces = pieces_of(plan)
    others = pieces_of(other)
    return many_in(pieces) == many_in(others) and do_alike(pieces, others)


def end_at(pieces, moment):
    """The pieces as if nobody came from a moment on."""
    ended = []
    for first, past, turns in pieces:
        end = moment if past is None else min(past, moment)
        ended.append((min(first, moment), end, turns))
    return ended


def alike_at(plan, other, moment):
    """Whether two plans make the same queue at a moment; NoPlan, NoMoment."""
    pieces = pieces_of(plan)
    others = pieces_of(other)
    check_moment(pieces, moment)
    check_moment(others, moment)
    return do_alike(end_at(pieces, moment), end_at(others, moment))
