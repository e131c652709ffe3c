"""Plans: who comes, with how much patience, and the queue that it makes."""

from comersline.errors import NoMoment, NoPerson, NoPlan, TooMany
from comersline.kinds import is_row, is_whole

# The greatest patience, the most people of a plan that ends, and the greatest moment.
GREATEST = 10 ** 30
# The most pieces of a plan, and the most patiences of a round.
LONGEST = 8
# The greatest moment whose queue is listed.
MOST_LISTED = 2000


def is_patience(thing):
    """Whether it is a patience."""
    return thing is None or (is_whole(thing) and 0 <= thing <= GREATEST)


def is_turns(thing):
    """Whether it is a round of patiences."""
    return is_row(thing) and 1 <= len(thing) <= LONGEST and all(is_patience(patience) for patience in thing)


def is_piece(thing):
    """Whether it is a piece, wherever it stands and however many it brings."""
    if not is_row(thing) or len(thing) != 2 or not is_turns(thing[0]):
        return False
    return thing[1] is None or (is_whole(thing[1]) and thing[1] >= 0)


def is_plan(thing):
    """Whether anything is a plan."""
    if not is_row(thing) or not 1 <= len(thing) <= LONGEST:
        return False
    if not all(is_piece(piece) for piece in thing):
        return False
    if any(piece[1] is None for piece in thing[:-1]):
        return False
    return sum(piece[1] for piece in thing if piece[1] is not None) <= GREATEST


def check_plan(thing):
    """NoPlan, unless it is a plan."""
    if not is_plan(thing):
        raise NoPlan("that is no plan")


def pieces_of(plan):
    """A plan's pieces as a copy of one's own, tuples (first, past, turns); NoPlan.

    By a piece come those from first to before past, which is None without end.
    """
    check_plan(plan)
    pieces = []
    first = 0
    for turns, many in plan:
        past = None if many is None else first + many
        pieces.append((first, past, tuple(turns)))
        first = past
    return pieces


def many_in(pieces):
    """How many come by the pieces, or None."""
    return pieces[-1][1]


def piece_number(pieces, person):
    """The number, from 0 on, of the piece by which one that comes does come."""
    at = 0
    while pieces[at][1] is not None and pieces[at][1] <= person:
        at += 1
    return at


def turn_at(pieces, person):
    """Where the patience of one that comes stands: the number of its piece, its place in the round."""
    at = piece_number(pieces, person)
    first, past, turns = pieces[at]
    return at, (person - first) % len(turns)


def patience_at(pieces, person):
    """The patience of one that comes by the pieces."""
    at, turn = turn_at(pieces, person)
    return pieces[at][2][turn]


def check_person(pieces, person):
    """NoPerson, unless it is the number of one that ever comes by the pieces."""
    many = many_in(pieces)
    if not is_whole(person) or person < 0 or (many is not None and person >= many):
        raise NoPerson("nobody that comes by the plan has that number")


def check_moment(pieces, moment):
    """NoMoment, unless it is a moment of the pieces."""
    many = many_in(pieces)
    if not is_whole(moment) or not 0 <= moment <= GREATEST or (many is not None and moment > many):
        raise NoMoment("that is no moment of the plan")


def how_many(plan):
    """How many come by a plan in all, or None; NoPlan."""
    return many_in(pieces_of(plan))


def patience_of(plan, person):
    """The patience of a person, or None where it never ends; NoPlan, NoPerson."""
    pieces = pieces_of(plan)
    check_person(pieces, person)
    return patience_at(pieces, person)


def let_past(left):
    """The place at which one that comes stops; each it goes past has one patience less then."""
    place = len(left)
    while place > 0 and left[place - 1] != 0:
        place -= 1
        if left[place] is not None:
            left[place] -= 1
    return place


def line_up(pieces, moment):
    """Who has come by a moment, and the patience each has left: two lists, the front first."""
    people = []
    left = []
    for person in range(moment):
        place = let_past(left)
        people.insert(place, person)
        left.insert(place, patience_at(pieces, person))
    return people, left


def listed_at(plan, moment):
    """What line_up tells of a plan; NoPlan, NoMoment, TooMany."""
    pieces = pieces_of(plan)
    check_moment(pieces, moment)
    if moment > MOST_LISTED:
        raise TooMany()
    return line_up(pieces, moment)


def queue_at(plan, moment):
    """The queue at a moment, the front first; NoPlan, NoMoment, TooMany."""
    people, left = listed_at(plan, moment)
    return people


def left_at(plan, moment):
    """The patience that each in the queue has left, the front first; NoPlan, NoMoment, TooMany."""
    people, left = listed_at(plan, moment)
    return left
