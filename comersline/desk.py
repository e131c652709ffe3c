"""The desk: a plan and a moment, told and asked by rows of words."""

from comersline.errors import NoForm, NoPerson, NoneYet
from comersline.figures import figures_of, figures_or, is_number, number_by
from comersline.lasts import last_of, unsafe_at, went_past, who_ahead
from comersline.least import least_plan
from comersline.places import person_at, place_of
from comersline.plans import check_moment, patience_of, pieces_of
from comersline.rounds import passes_by
from comersline.texts import NEVER, read_plan, show_plan
from comersline.windows import window_of

# What a row begins with that hands in a plan; all behind it is the plan's text.
PLAN_AHEAD = "plan "
# The most people that are told of the front.
MOST_IN_FRONT = 100
# What is told of nobody, and of no window.
NONE = "none"


def tell_place(plan, moment, numbers):
    """Where a person stands; NoPerson."""
    return figures_of(place_of(plan, moment, numbers[0]))


def tell_at(plan, moment, numbers):
    """Who stands at a place; NoPlace."""
    return figures_of(person_at(plan, moment, numbers[0]))


def tell_last(plan, moment, numbers):
    """The last of a person; NoPerson."""
    return figures_or(last_of(plan, numbers[0]), NEVER)


def tell_past(plan, moment, numbers):
    """How many went past a person; NoPerson, NoMoment."""
    return figures_of(went_past(plan, numbers[0], moment))


def tell_window(plan, moment, numbers):
    """The window that a person opens; NoPerson."""
    window = window_of(plan, numbers[0])
    return NONE if window is None else show_row(window)


def tell_ahead(plan, moment, numbers):
    """Who of two stands ahead; NoPerson, NoOther."""
    return figures_of(who_ahead(plan, numbers[0], numbers[1]))


def tell_unsafe(plan, moment, numbers):
    """How many are not safe."""
    return figures_of(unsafe_at(plan, moment))


def tell_passes(plan, moment, numbers):
    """How often somebody went past somebody."""
    return figures_of(passes_by(plan, moment))


def tell_left(plan, moment, numbers):
    """The patience left of one that stands; NoPerson."""
    person = numbers[0]
    if person >= moment:
        raise NoPerson("nobody with that number stands there")
    patience = patience_of(plan, person)
    return NEVER if patience is None else figures_of(patience - went_past(plan, person, moment))


def tell_front(plan, moment, numbers):
    """The first so many people, to a hundred."""
    many = min(numbers[0], moment, MOST_IN_FRONT)
    return NONE if many == 0 else show_row([person_at(plan, moment, place) for place in range(many)])


def tell_least(plan, moment, numbers):
    """The least plan's text."""
    return show_plan(least_plan(plan))


def show_row(numbers):
    """Numbers with blanks between."""
    return " ".join([figures_of(number) for number in numbers])


# What is asked by a row's first word, the numbers behind it handed on.
TELLERS = {
    "place": tell_place,
    "at": tell_at,
    "last": tell_last,
    "past": tell_past,
    "window": tell_window,
    "ahead": tell_ahead,
    "unsafe": tell_unsafe,
    "passes": tell_passes,
    "left": tell_left,
    "front": tell_front,
    "least": tell_least,
}
# How many numbers are due behind each row's first word.
NUMBERS_DUE = {
    "on": 1,
    "undo": 0,
    "place": 1,
    "at": 1,
    "last": 1,
    "past": 1,
    "window": 1,
    "ahead": 2,
    "unsafe": 0,
    "passes": 0,
    "left": 1,
    "front": 1,
    "least": 0,
}


def read_row(row):
    """The first word of a row and the numbers behind it; NoForm."""
    words = row.split(" ")
    word = words[0]
    figures = words[1:]
    if word not in NUMBERS_DUE or len(figures) != NUMBERS_DUE[word] or not all(is_number(part) for part in figures):
        raise NoForm("that is no row of a form")
    return word, [number_by(part) for part in figures]


class Desk:
    """A plan and a moment, and what they were before each row that changed them."""

    def __init__(self):
        self.plan = [([0], 0)]
        self.moment = 0
        self.before = []

    def say(self, row):
        """What a row tells; NoForm, NoText, NoPlan, NoMoment, NoneYet, and what is refused of its numbers."""
        if not isinstance(row, str) or "\n" in row:
            raise NoForm("that is no row")
        if row.startswith(PLAN_AHEAD):
            return self.begin(read_plan(row[len(PLAN_AHEAD):]))
        word, numbers = read_row(row)
        if word == "on":
            return self.go_on(numbers[0])
        if word == "undo":
            return self.go_back()
        teller = TELLERS[word]
        return teller(self.plan, self.moment, numbers)

    def begin(self, plan):
        """Takes a plan of which nobody has come."""
        self.move_to(plan, 0)
        return "ok"

    def go_on(self, many):
        """So many more come; NoMoment."""
        moment = self.moment + many
        check_moment(pieces_of(self.plan), moment)
        self.move_to(self.plan, moment)
        return figures_of(moment)

    def move_to(self, plan, moment):
        """Takes a plan and a moment, and keeps what was before."""
        self.before.append((self.plan, self.moment))
        self.plan = plan
        self.moment = moment

    def go_back(self):
        """Takes what was before the last row that is not undone; NoneYet."""
        if not self.before:
            raise NoneYet("no row is left")
        self.plan, self.moment = self.before.pop()
        return "ok"
