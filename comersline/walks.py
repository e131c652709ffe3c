"""Walks along one level of windows, step by step, whole rounds of steps at once.

A window is opened by a person and reaches over as many behind it as its patience tells.
A level begins at a person and has a bound, the last of the window around it. On it each one
that comes next either opens a window that doesn't reach beyond the bound, and the next on
the level is the one behind that window, or is left over, and the next is the one behind it.
"""

from comersline.plans import many_in, piece_number, turn_at


class Run:
    """Steps along a level that are taken over and over, one round of them behind the other.

    A step is a tuple (person, width): whom it meets the first time, and how many the window
    holds which this one opens, 0 where it is left over. The rounds go over at most as many
    people as there is room for, but one round is taken in any case.
    """

    def __init__(self, steps, room):
        self.steps = steps
        # How many are left over in one round, and how many people it goes over in all.
        self.spare = len([width for person, width in steps if width == 0])
        self.length = self.spare + sum([width for person, width in steps])
        self.times = max(1, room // self.length)


def runs_on(pieces, start, bound, stop):
    """The runs from start on that meet all on the level up to stop; no bound is None.

    Within a run all steps begin in one piece, and where they are taken more than once, they
    stay within it.
    """
    runs = []
    ahead = start
    while ahead <= stop:
        piece = pieces[piece_number(pieces, ahead)]
        end = stretch_end(piece, ahead, bound, stop)
        once, again = stretch_steps(piece, ahead, bound, end)
        if once:
            runs.append(Run(once, 0))
            ahead += runs[-1].length
        if again:
            runs.append(Run(again, end + 1 - ahead))
            ahead += runs[-1].times * runs[-1].length
    return runs


def stretch_end(piece, start, bound, stop):
    """The last number from start on by which the same turns of a piece open windows."""
    first, past, turns = piece
    end = stop if past is None else min(stop, past - 1)
    if bound is None:
        return end
    fits = [bound - patience for patience in turns if patience is not None]
    return min([end] + [last for last in fits if last >= start])


def window_widths(turns, start, bound):
    """How many a window holds that each turn opens from start on, 0 where it opens none."""
    widths = []
    for patience in turns:
        opens = patience is not None and (bound is None or start + patience <= bound)
        widths.append(patience + 1 if opens else 0)
    return widths


def stretch_steps(piece, start, bound, end):
    """The steps of a stretch till a turn comes again, or its end: those once taken, those again."""
    first, past, turns = piece
    widths = window_widths(turns, start, bound)
    steps = []
    met = {}
    ahead = start
    while ahead <= end:
        turn = (ahead - first) % len(turns)
        if turn in met:
            return steps[:met[turn]], steps[met[turn]:]
        met[turn] = len(steps)
        steps.append((ahead, widths[turn]))
        ahead += max(widths[turn], 1)
    return steps, []


def outer_bound(pieces):
    """The bound of the level with no window around it: the last one that comes, or None."""
    many = many_in(pieces)
    return None if many is None else many - 1


def last_step(runs):
    """The last step of all."""
    run = runs[-1]
    person, width = run.steps[-1]
    return person + (run.times - 1) * run.length, width


def last_opener(runs):
    """The last one met that opens a window, or None."""
    for run in reversed(runs):
        openers = [person for person, width in run.steps if width > 0]
        if openers:
            return openers[-1] + (run.times - 1) * run.length
    return None


def spare_on(runs):
    """How many are met that are left over."""
    return sum([run.times * run.spare for run in runs])


def window_kind(pieces, opener, last):
    """A key that only windows have in common in which all stand alike.

    Windows that one turn of a piece opens are alike as long as they stay within the piece.
    """
    at, turn = turn_at(pieces, opener)
    past = pieces[at][1]
    return (at, turn) if past is None or last < past else (opener,)
