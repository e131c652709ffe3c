"""Things that are none of what is due, whatever that is."""


class Odd:
    """Equal to everything, and no number for all that."""

    def __eq__(self, other):
        return True

    def __hash__(self):
        return 0

    def __index__(self):
        return 1


def within_itself():
    thing = []
    thing.append(thing)
    return thing


def deep(many):
    thing = []
    for _ in range(many):
        thing = [thing]
    return thing


def no_numbers():
    """What is no whole number, though some of it is like one."""
    return [None, True, False, 0.0, 1.0, 1.5, float("nan"), float("inf"), 1j, "0", "1", "", b"1", [], [1],
            (1,), {}, {1: 1}, set(), {1}, frozenset([1]), range(1), object(), Odd(), int, len, deep(40), within_itself()]


def no_plans():
    """What is no plan, by its kind, its lengths, its numbers or where its end stands."""
    bare = [thing for thing in no_numbers() if thing is not None] + [None, 0, 1, -1]
    rounds = bare + [[-1], [10 ** 30 + 1], [True], [False], [1.0], ["1"], [[]], [[1]], [0, True], [1] * 9, [Odd()],
                     "123", b"123", {0: 1}, {1}, range(2), [1, -1], (None, False), [1, float("nan")]]
    rounds = [turns for turns in rounds if turns not in ([1], (1,)) or isinstance(turns, Odd)]
    many = [-1, True, False, 1.0, float("inf"), "1", "ever", [], [1], (1,), {}, Odd(), object(), 10 ** 30 + 1]
    plans = list(bare)
    plans += [[(turns, 1)] for turns in rounds]
    plans += [[([1], 1), (turns, None)] for turns in rounds]
    plans += [[([1], brings)] for brings in many]
    plans += [[([1], brings), ([1], None)] for brings in many]
    pieces = [(), [], ([1],), [[1]], ([1], 1, 1), [[1], 1, None], (1, [1]), (None, [1]), {0: [1], 1: 1}, "ab", "1x",
              b"ab", {1, 2}, range(2), None, 1, True]
    plans += [[piece] for piece in pieces]
    plans += [[([1], 1), piece] for piece in pieces]
    plans += [([1], 1), [[1], 1], ([1], None), [([1], 1)] * 9, [([1], 0)] * 9, {0: ([1], 1)}, {("a", 1)}, "0 x 0", b""]
    plans += [[([1], None), ([1], 1)], [([1], None), ([1], 0)], [([1], None), ([1], None)], [([1], 1), ([1], None), ([1], 1)]]
    plans += [[([1], 10 ** 30), ([1], 1)], [([1], 1), ([1], 10 ** 30)], [([1], 10 ** 30), ([1], 1), ([1], None)]]
    plans += [[([1], 6 * 10 ** 29), ([1], 6 * 10 ** 29)]]
    return plans


def no_people(many):
    """What is no number of one of so many that come, or of people without end (None)."""
    things = no_numbers() + [-1, -10 ** 30, -10 ** 40 + 1]
    if many is not None:
        things += [many, many + 1, 10 ** 30, 10 ** 40 - 1]
    return things


def no_moments(many):
    """What is no moment where so many come, or people without end (None)."""
    things = no_numbers() + [-1, -10 ** 30, 10 ** 30 + 1, 10 ** 40 - 1]
    if many is not None and many < 10 ** 30:
        things += [many + 1, many + 2, 10 ** 30]
    return things


def no_patiences():
    return [thing for thing in no_numbers() if thing is not None] + [-1, -10 ** 30, 10 ** 30 + 1, 10 ** 40 - 1, "never"]


def no_orders():
    """What is no order, by its kind, its length, or what is in it."""
    orders = [thing for thing in no_numbers() if not isinstance(thing, (list, tuple)) or thing]
    orders += [0, 1, -1, [-1], [0, 0], [0, 2], [1, 2], [1, 2, 3], [0, 1, 1], [2, 0], [0, 1, 3], [0, -1], [0, 10 ** 40 - 1]]
    orders += [[False], [True], [0, True], [False, 1], [True, False], [0.0], [0, 1.0], ["0"], [None], [[0]], [(0,)],
               [Odd()], [0, Odd()], [Odd(), 0], (1,), (True, 0), (0, 0), (0, 2), "0", "01", "10", b"\0", b"\0\1",
               {0}, {0, 1}, {0: 1}, {0: 0, 1: 1}, range(2), [0, None], [0, "1"], [0, [1]], [[0, 1]], [range(1)]]
    orders += [list(range(61)), tuple(range(61)), list(range(60, -1, -1)), list(range(300)), [0] * 60, [0] * 61,
               list(range(1, 61)), list(range(59)) + [58], list(range(59)) + [60], list(range(59)) + [59.0]]
    return orders


def no_histories():
    """What is no list of deeds that can be done."""
    deeds = [thing for thing in no_numbers()] + [0, 1, -1]
    deeds += [("come",), ("come", 1, 1), ("come", True), ("come", False), ("come", -1), ("come", 1.0), ("come", "1"),
              ("come", 10 ** 30 + 1), ("come", Odd()), ("come", [1]), ("come", (1,)), ("come", "never"), ("come", ()),
              ("serve", None), ("serve", 0), ("serve", 0, 0), ["serve", 1], ("Come", 1), ("COME", 1), ("come ", 1),
              (" come", 1), ("Serve",), ("serve ",), ("undo",), ("undo", 1), ("", 1), ("",), (Odd(), 1), (Odd(),),
              [Odd(), None], (b"come", 1), (b"serve",), (1, "come"), (None, 1), (0, 1), (("come",), 1), (["serve"],),
              "come", "serve", ("c", "o"), {"come": 1}, {"serve"}, {0: "come", 1: 1}, [["come", 1]], [("serve",)]]
    ahead = [("come", 1), ("come", None)]
    histories = [thing for thing in no_numbers() if not isinstance(thing, (list, tuple)) or thing]
    histories += [0, 1, ("come", 1), ["come", 1], ("serve",), ["serve"], {("come", 1)}, {("come", 1): 1}, "come 1"]
    histories += [[deed] for deed in deeds] + [(deed,) for deed in deeds]
    histories += [ahead + [deed] for deed in deeds] + [tuple(ahead) + (deed, ("serve",)) for deed in deeds]
    histories += [[("serve",)], (("serve",),), [["serve"]], [("come", 1), ("serve",), ("serve",)],
                  [("serve",), ("come", 1)], ahead + [("serve",)] * 3, [("come", 0)] * 150 + [("serve",)] * 151,
                  [("come", 2), ("serve",), ("come", 2), ("serve",), ("serve",), ("come", 1), ("come", 1)]]
    return histories


def no_texts():
    """What is no text at all."""
    return [thing for thing in no_numbers() if not isinstance(thing, str)] + [0, 1, b"0 x 0", ["0 x 0"], ("0 x 0",),
                                                                                 [("0", "x", "0")], {"0 x 0"}]
