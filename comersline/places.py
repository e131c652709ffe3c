"""Places: who stands where at a moment.

On a level from a person on up to its bound its windows stand first, one behind the other, each
as many places as it has people; behind them those that are left over, the newest first. A
window's opener stands behind all else in it. At a moment nobody comes any more, so that the
level with no window around it ends with the newest then.
"""

from comersline.errors import NoPerson, NoPlace
from comersline.kinds import is_whole
from comersline.plans import check_moment, pieces_of
from comersline.walks import last_step, runs_on, spare_on


def place_of(plan, moment, person):
    """The place of a person in the queue at a moment, from 0 on; NoPlan, NoMoment, NoPerson."""
    pieces = pieces_of(plan)
    check_moment(pieces, moment)
    if not is_whole(person) or not 0 <= person < moment:
        raise NoPerson("nobody with that number stands there")
    place = 0
    start = 0
    bound = moment - 1
    while start <= person:
        runs = runs_on(pieces, start, bound, person)
        here, width = last_step(runs)
        spare = spare_on(runs)
        if width == 0:
            return place + bound - start - (spare - 1)
        place += here - start - spare
        start = here + 1
        bound = here + width - 1
    return place + bound - person


def person_at(plan, moment, place):
    """The person at a place of the queue at a moment; NoPlan, NoMoment, NoPlace."""
    pieces = pieces_of(plan)
    check_moment(pieces, moment)
    if not is_whole(place) or not 0 <= place < moment:
        raise NoPlace("the queue has no such place")
    start = 0
    bound = moment - 1
    while start + place <= bound:
        runs = runs_on(pieces, start, bound, bound)
        behind = bound - start - place
        if behind < spare_on(runs):
            return spare_at(runs, behind)
        opener, last, place = window_at(runs, place)
        start = opener + 1
        bound = last
    return start - 1


def spare_at(runs, number):
    """Who is the so many, from 0 on, of those on a level that are left over."""
    at = 0
    while number >= runs[at].times * runs[at].spare:
        number -= runs[at].times * runs[at].spare
        at += 1
    gone, number = divmod(number, runs[at].spare)
    spare = [person for person, width in runs[at].steps if width == 0]
    return spare[number] + gone * runs[at].length


def window_at(runs, place):
    """The window, opener and last, that holds a place of a level, and the place within it."""
    at = 0
    while place >= runs[at].times * (runs[at].length - runs[at].spare):
        place -= runs[at].times * (runs[at].length - runs[at].spare)
        at += 1
    gone, place = divmod(place, runs[at].length - runs[at].spare)
    step = 0
    while place >= runs[at].steps[step][1]:
        place -= runs[at].steps[step][1]
        step += 1
    opener = runs[at].steps[step][0] + gone * runs[at].length
    return opener, opener + runs[at].steps[step][1] - 1, place
