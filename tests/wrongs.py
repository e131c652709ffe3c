"""Things that are none of what is due, whatever that is."""


class Odd:
    """Equal to everything, and no number for all that."""

    def __eq__(self, other):
        return True

    def __hash__(self):
        return 0

    def __index__(self):
        return 1


def within_itself():
    thing = []
    thing.append(thing)
    return thing


def deep(many):
    thing = []
    for _ in range(many):
        thing = [thing]
    return thing


def no_numbers():
    """What is no whole number, though some of it is like one."""
    return [None, True, False, 0.0, 1.0, 1.5, float("nan"), float("inf"), 1j, "0", "1", "", b"1", [], [1],
            (1,), {}, {1: 1}, set(), {1}, frozenset([1]), range(1), object(), Odd(), int, len, deep(40), within_itself()]


def no_plans():
    """What is no plan, by its kind, its lengths, its numbers or where its end stands."""
    bare = [thing for thing in no_numbers() if thing is not None] + [None, 0, 1, -1]
    rounds = bare + [[-1], [10 ** 30 + 1], [True], [False], [1.0], ["1"], [[]], [[1]], [0, True], [1] * 9, [Odd()],
                     "123", b"123", {0: 1}, {1}, range(2), [1, -1], (None, False), [1, float("nan")]]
    rounds = [turns for turns in rounds if turns not in ([1], (1,)) or isinstance(turns, Odd)]
    many = [-1, True, False, 1.0, float("inf"), "1", "ever", [], [1], (1,), {}, Odd(), object(), 10 ** 30 + 1]
    plans = list(bare)
    plans += [[(turns, 1)] for turns in rounds]
    plans += [[([1], 1), (turns, None)] for turns in rounds]
    plans += [[([1], brings)] for brings in many]
    plans += [[([1], brings), ([1], None)] for brings in many]
    pieces = [(), [], ([1],), [[1]], ([1], 1, 1), [[1], 1, None], (1, [1]), (None, [1]), {0: [1], 1: 1}, "ab", "1x",
              b"ab", {1, 2}, range(2), None, 1, True]
    plans += [[piece] for piece in pieces]
    plans += [[([1], 1), piece] for piece in pieces]
    plans += [([1], 1), [[1], 1], ([1], None), [([1], 1)] * 9, [([1], 0)] * 9, {0: ([1], 1)}, {("a", 1)}, "0 x 0", b""]
    plans += [[([1], None), ([1], 1)], [([1], None), ([1], 0)], [([1], None), ([1], None)], [([1], 1), ([1], None), ([1], 1)]]
    plans += [[([1], 10 ** 30), ([1], 1)], [([1], 1), ([1], 10 ** 30)], [([1], 10 ** 30), ([1], 1), ([1], None)]]
    plans += [[([1], 6 * 10 ** 29), ([1], 6 * 10 ** 29)]]
    return plans


def no_people(many):
    """What is no number of one of so many that come, or of people without end (None)."""
    things = no_numbers() + [-1, -10 ** 30, -10 ** 40 + 1]
    if many is not None:
        things += [many, many + 1, 10 ** 30, 10 ** 40 - 1]
    return things


def no_moments(many):
    """What is no moment where so many come, or people without end (None)."""
    things = no_numbers() + [-1, -10 ** 30, 10 ** 30 + 1, 10 ** 40 - 1]
    if many is not None and many < 10 ** 30:
        things += [many + 1, many + 2, 10 ** 30]
    return things
