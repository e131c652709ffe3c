"""Points 2 and 3: what is handed in stays as it is, and what is told is the asker's own."""

import copy
import unittest

from comersline.desk import Desk
from comersline.errors import LineError
from comersline.lasts import last_of, refuser_at, unsafe_at, went_past, who_ahead
from comersline.least import alike_at, are_alike, least_plan
from comersline.line import Line, line_of
from comersline.orders import barring, bars, is_order, least_patiences, rows_counted
from comersline.places import person_at, place_of
from comersline.plans import how_many, is_plan, left_at, patience_of, queue_at
from comersline.rounds import passes_by, round_of
from comersline.texts import read_plan, show_plan
from comersline.windows import is_around, window_of, windows_around

PLAN = [[[3, 0, None], 5], [[1, 2], None]]
OTHER = [[[3, 0, 4], 5], [[1, 2], None]]
AROUND = [[4, 4]]
ASKED = ((is_plan,), (how_many,), (patience_of, 6), (queue_at, 9), (left_at, 9), (last_of, 4), (went_past, 4, 9),
         (who_ahead, 2, 7), (unsafe_at, 9), (refuser_at, 9), (place_of, 9, 4), (person_at, 9, 4), (window_of, 4),
         (windows_around, 4), (is_around, 4, AROUND), (round_of,), (passes_by, 9), (least_plan,), (are_alike, OTHER),
         (alike_at, OTHER, 9), (show_plan,))


def as_tuples(thing):
    return tuple(as_tuples(inner) for inner in thing) if isinstance(thing, list) else thing


def answers_of(plan):
    return [ask(plan, *more) for ask, *more in ASKED]


class Kept(unittest.TestCase):
    def test_what_is_handed_in_is_not_changed(self):
        plan = copy.deepcopy(PLAN)
        answers_of(plan)
        self.assertEqual(plan, PLAN)

    def test_nor_are_another_plan_and_what_is_judged(self):
        other, around = copy.deepcopy(OTHER), copy.deepcopy(AROUND)
        are_alike(PLAN, other)
        alike_at(PLAN, other, 9)
        is_around(PLAN, 4, around)
        self.assertEqual((other, around), (OTHER, AROUND))

    def test_what_is_refused_changes_nothing(self):
        plan = copy.deepcopy(PLAN)
        for ask, *more in ASKED[2:]:
            if more:
                with self.assertRaises(LineError):
                    ask(plan, *([-1] * len(more)))
        self.assertEqual(plan, PLAN)
        self.assertEqual(answers_of(plan), answers_of(PLAN))

    def test_told_lists_are_lists_and_new(self):
        for ask in (queue_at, left_at):
            told = ask(PLAN, 9)
            again = ask(PLAN, 9)
            self.assertIs(type(told), list)
            self.assertEqual(told, again)
            self.assertIsNot(told, again)
            told.clear()
            self.assertEqual(ask(PLAN, 9), again)

    def test_told_windows_are_tuples_in_a_new_list(self):
        told = windows_around([([5, 4, 1, 0], None)], 2)
        again = windows_around([([5, 4, 1, 0], None)], 2)
        self.assertEqual([type(told)] + [type(window) for window in told], [list, tuple, tuple, tuple])
        self.assertIsNot(told, again)
        told.clear()
        self.assertEqual(windows_around([([5, 4, 1, 0], None)], 2), again)
        self.assertIs(type(window_of(PLAN, 4)), tuple)
        empty = windows_around([([None], None)], 2)
        empty.append((0, 0))
        self.assertEqual(windows_around([([None], None)], 2), [])

    def test_a_told_plan_is_new_down_to_what_is_within_it(self):
        for plan in (PLAN, as_tuples(PLAN), least_plan(PLAN)):
            told = least_plan(plan)
            kept = copy.deepcopy(told)
            self.assertEqual([type(told)] + [type(piece) for piece in told], [list, tuple, tuple])
            for turns, many in told:
                self.assertIs(type(turns), list)
                turns.append(7)
            told.clear()
            self.assertEqual(least_plan(plan), kept)

    def test_told_numbers_are_no_truths(self):
        plan = [([0, 1], 2)]
        for told in (how_many([([1], 1)]), patience_of(plan, 1), last_of(plan, 0), last_of(plan, 1),
                     went_past([([1], 2)], 0, 2), who_ahead(plan, 1, 0), unsafe_at(plan, 2), refuser_at(plan, 1),
                     *queue_at(plan, 2), *left_at(plan, 2), place_of(plan, 2, 1), person_at(plan, 2, 1),
                     *window_of(plan, 0), *windows_around(plan, 0)[0], *round_of([([0], None)]), passes_by(plan, 1),
                     *least_plan([([1, 0], 2)])[0][0], least_plan([([1], 1)])[0][1]):
            self.assertIs(type(told), int)

    def test_a_plan_changed_later_is_asked_anew(self):
        plan = copy.deepcopy(PLAN)
        told = queue_at(plan, 9)
        kept = list(told)
        plan[0][0][0] = 0
        plan[1][1] = 3
        self.assertEqual(told, kept)
        self.assertEqual(how_many(plan), 8)
        self.assertEqual(answers_of(PLAN), answers_of(copy.deepcopy(PLAN)))

    def test_lists_and_tuples_are_told_the_same(self):
        self.assertEqual(answers_of(as_tuples(PLAN)), answers_of(PLAN))
        self.assertEqual(answers_of([((3, 0, None), 5), [(1, 2), None]]), answers_of(PLAN))

    def test_the_same_asked_again_is_told_the_same(self):
        first = answers_of(PLAN)
        answers_of([([0], None)])
        self.assertEqual(answers_of(PLAN), first)

    def test_what_is_told_may_be_handed_in(self):
        greatest = last_of([([10 ** 30], None)], (10 ** 30 + 1) * (10 ** 10 - 2))
        self.assertEqual(last_of([([0], None)], 10 ** 20 * greatest), 10 ** 20 * greatest)


class KeptOrders(unittest.TestCase):
    def test_what_is_handed_in_is_not_changed(self):
        for order in ([4, 2, 3, 0, 1], [1, 4, 3, 2, 0]):
            handed, three = list(order), [2, 0, 1]
            for ask, *more in ((is_order,), (barring,), (bars, three), (least_patiences,), (rows_counted, 9)):
                told = ask(handed, *more)
                self.assertEqual((handed, three), (order, [2, 0, 1]))
                self.assertEqual(ask(tuple(order), *map(as_tuples, more)), told)
                self.assertEqual(ask(order, *more), told)

    def test_told_lists_are_new(self):
        order = [1, 4, 3, 2, 0]
        told = least_patiences(order)
        self.assertIs(type(told), list)
        told.clear()
        self.assertEqual(least_patiences(order), [4, 0, 2, 1, 0])
        order.clear()
        self.assertEqual(least_patiences(order), [])

    def test_what_is_told_may_be_handed_in(self):
        order = Line()
        for patience in (4, 0, 2, 1, 0):
            order.come(patience)
        self.assertEqual(least_patiences(order.queue()), [4, 0, 2, 1, 0])
        barred = [4, 2, 3, 0, 1]
        self.assertIs(bars(barred, barring(barred)), True)
        self.assertEqual(rows_counted([0], rows_counted([1, 0], 9)), 91)


class KeptTexts(unittest.TestCase):
    def test_a_told_plan_is_the_askers_own(self):
        plan = read_plan("3 0 never x 5, 1 2 x ever")
        self.assertEqual(plan, [tuple(piece) for piece in PLAN])
        plan[0][0][0] = 9
        plan.pop()
        self.assertEqual(read_plan("3 0 never x 5, 1 2 x ever"), [tuple(piece) for piece in PLAN])

    def test_one_plan_by_all_ways(self):
        self.assertEqual(show_plan(PLAN), "3 0 never x 5, 1 2 x ever")
        self.assertEqual(show_plan(as_tuples(PLAN)), show_plan(PLAN))
        desk = Desk()
        desk.say("plan " + show_plan(PLAN))
        desk.say("on 9")
        line = line_of([("come", patience_of(PLAN, person)) for person in range(9)])
        self.assertEqual(desk.say("front 9"), " ".join(map(str, line.queue())))
        self.assertEqual(line.queue(), queue_at(PLAN, 9))
        self.assertEqual(line.left(), left_at(PLAN, 9))


if __name__ == "__main__":
    unittest.main()
