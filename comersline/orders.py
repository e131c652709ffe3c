"""Orders: which can come to stand, and by which patiences.

An order can stand just where no three stand youngest, oldest, the one between: that one stopped
behind the oldest, by somebody who let nobody past any more, so that the youngest couldn't come
past both.
"""

from comersline.errors import NoNumber, NoOrder
from comersline.kinds import is_row, is_whole

# The most people of an order.
MOST_PEOPLE = 60
# The greatest number up to which patiences are counted.
GREATEST_MOST = 10 ** 18


def is_order(thing):
    """Whether anything is an order."""
    if not is_row(thing) or len(thing) > MOST_PEOPLE:
        return False
    return all(is_whole(person) for person in thing) and sorted(thing) == list(range(len(thing)))


def people_of(order):
    """An order as a copy of one's own; NoOrder."""
    if not is_order(order):
        raise NoOrder("that is no order")
    return list(order)


def places_of(people):
    """The places in an order by people's numbers."""
    return [people.index(person) for person in range(len(people))]


def bar_it(places, youngest, oldest, between):
    """Whether three of an order are of these ages and stand so, from the front."""
    return oldest < between < youngest and places[youngest] < places[oldest] < places[between]


def barring(order):
    """The least three (youngest, oldest, between) by which an order can't stand, or None; NoOrder."""
    places = places_of(people_of(order))
    for youngest in range(len(places)):
        for oldest in range(youngest):
            for between in range(oldest + 1, youngest):
                if bar_it(places, youngest, oldest, between):
                    return youngest, oldest, between
    return None


def bars(order, thing):
    """Whether anything is three people by which an order can't stand; NoOrder."""
    places = places_of(people_of(order))
    if not is_row(thing) or len(thing) != 3:
        return False
    if not all(is_whole(person) and 0 <= person < len(places) for person in thing):
        return False
    return bar_it(places, thing[0], thing[1], thing[2])


def least_patiences(order):
    """The least patiences by which an order stands, by people's numbers, or None; NoOrder.

    They are how many go past each: the later ones that stand ahead of it.
    """
    people = people_of(order)
    if barring(people) is not None:
        return None
    places = places_of(people)
    return [len([later for later in people[:places[person]] if later > person]) for person in range(len(people))]


def refuser_of(people, newcomer):
    """The one behind which a newcomer of an order stopped, or None where it went to the front."""
    ahead = [person for person in people[:people.index(newcomer)] if person < newcomer]
    return ahead[-1] if ahead else None


def rows_counted(order, most):
    """How many lists of patiences, each from 0 to a most, make an order; NoOrder, NoNumber.

    Behind whom somebody stopped has just as much patience as went past it; all others may have
    any more than that.
    """
    people = people_of(order)
    if not is_whole(most) or not 0 <= most <= GREATEST_MOST:
        raise NoNumber("that is no greatest patience up to which rows are counted")
    least = least_patiences(people)
    if least is None or max(least, default=0) > most:
        return 0
    refusers = [refuser_of(people, newcomer) for newcomer in people]
    counted = 1
    for person, patience in enumerate(least):
        if person not in refusers:
            counted *= most - patience + 1
    return counted
