"""Walks along one level of windows.

A window is opened by a person and reaches over as many behind it as its patience tells.
A level begins at a person and has a bound, the last of the window around it. On it each one
that comes next either opens a window that doesn't reach beyond the bound, and the next on
the level is the one behind that window, or is left over, and the next is the one behind it.
"""

from comersline.plans import piece_at


class Walk:
    """A walk along one level: who comes next, and what has been met so far."""

    def __init__(self, start):
        self.ahead = start
        # The last one met on the level, and the last one met there that opens a window.
        self.here = None
        self.opener = None
        # How many have been met that are left over.
        self.spare = 0


def walk_level(pieces, start, bound, stop):
    """The walk from start on that has met all on the level up to stop; no bound is None."""
    walk = Walk(start)
    while walk.ahead <= stop:
        cross_stretch(walk, piece_at(pieces, walk.ahead), bound, stop)
    return walk


def cross_stretch(walk, piece, bound, stop):
    """Goes on to the end of the stretch in which each turn of the round takes the same step."""
    first, past, turns = piece
    end = stretch_end(piece, walk.ahead, bound, stop)
    widths = window_widths(turns, walk.ahead, bound)
    seen = {}
    while walk.ahead <= end:
        turn = (walk.ahead - first) % len(turns)
        if turn in seen:
            skip_rounds(walk, seen[turn], end)
            seen = {}
        seen[turn] = (walk.ahead, walk.spare)
        meet_one(walk, widths[turn])


def stretch_end(piece, start, bound, stop):
    """The last number from start on by which the same turns of a piece open windows."""
    first, past, turns = piece
    end = stop if past is None else min(stop, past - 1)
    if bound is None:
        return end
    fits = [bound - patience for patience in turns if patience is not None]
    return min([end] + [last for last in fits if last >= start])


def window_widths(turns, start, bound):
    """How many a window holds that each turn opens from start on, 0 where it opens none."""
    widths = []
    for patience in turns:
        opens = patience is not None and (bound is None or start + patience <= bound)
        widths.append(patience + 1 if opens else 0)
    return widths


def meet_one(walk, width):
    """Meets the one ahead, that opens a window of so many, or is left over."""
    walk.here = walk.ahead
    if width == 0:
        walk.spare += 1
        walk.ahead += 1
    else:
        walk.opener = walk.ahead
        walk.ahead += width


def skip_rounds(walk, earlier, end):
    """Repeats what was met since an earlier one at the same turn, as often as the end lets."""
    start, spare = earlier
    length = walk.ahead - start
    times = (end - walk.ahead) // length
    if walk.opener is not None and walk.opener >= start:
        walk.opener += times * length
    walk.spare += times * (walk.spare - spare)
    walk.ahead += times * length
