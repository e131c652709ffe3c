"""Points 5 and 6: what a plan is, who comes by it, and the queue that it makes."""

import unittest

from comersline.errors import NoMoment, NoPerson, NoPlan, TooMany
from comersline.plans import how_many, is_plan, left_at, patience_of, queue_at
from tests.onebyone import crowd_of, patiences_of, small_plans
from tests.wrongs import no_moments, no_people, no_plans

FAR = 10 ** 30


class IsPlan(unittest.TestCase):
    def test_plans(self):
        for plan in ([([0], 0)], [([1], 1)], [([0, 1, None], 5)], [([FAR], FAR)], [([None], None)],
                     [([1], 0), ([2], None)], [([1], FAR), ([2], None)], [([1], FAR), ([2], 0)], [([1] * 8, 1)] * 8,
                     [([1] * 8, 1)] * 7 + [([None] * 8, None)], [([0], FAR // 8)] * 8, [([1], 10 ** 29)] * 8):
            self.assertIs(is_plan(plan), True, plan)

    def test_lists_and_tuples_are_one_here(self):
        for plan in ((([1], 1),), [[[1], 1]], ([[1], 1],), (((1,), 1),), [((1, 2), None)], [[(1, 2), 3], ([0], None)]):
            self.assertIs(is_plan(plan), True, plan)

    def test_no_plans(self):
        for thing in no_plans():
            with self.subTest(repr(thing)[:60]):
                self.assertIs(is_plan(thing), False)

    def test_lengths(self):
        for many in range(12):
            self.assertIs(is_plan([([1], 1)] * many), 1 <= many <= 8)
            self.assertIs(is_plan([([1] * many, 1)]), 1 <= many <= 8)

    def test_all_together_at_most(self):
        self.assertIs(is_plan([([1], FAR - 1), ([1], 1)]), True)
        self.assertIs(is_plan([([1], FAR - 1), ([1], 2)]), False)
        self.assertIs(is_plan([([1], FAR), ([1], None)]), True)
        self.assertIs(is_plan([([1], FAR), ([1], 1), ([1], None)]), False)


class HowMany(unittest.TestCase):
    def test_told(self):
        self.assertEqual(how_many([([0], 0)]), 0)
        self.assertEqual(how_many([([3, 0, None], 25), ([1], 4)]), 29)
        self.assertEqual(how_many([([1], 3), ([2], 0), ([0], FAR - 3)]), FAR)
        self.assertIsNone(how_many([([1], 3), ([2], None)]))
        self.assertIsNone(how_many([([1], None)]))


class PatienceOf(unittest.TestCase):
    def test_each_piece_begins_with_the_first_of_its_round(self):
        plan = [([3, 0, None], 4), ([7], 0), ([1, 2], 3), ([5, 6], None)]
        told = [patience_of(plan, person) for person in range(11)]
        self.assertEqual(told, [3, 0, None, 3, 1, 2, 1, 5, 6, 5, 6])

    def test_small(self):
        for plan in small_plans():
            patiences = patiences_of(plan, 40)
            self.assertEqual([patience_of(plan, person) for person in range(len(patiences))], patiences)

    def test_far(self):
        plan = [([0, 1, 2], FAR)]
        self.assertEqual(patience_of(plan, FAR - 1), (FAR - 1) % 3)
        self.assertEqual(patience_of([([4, 5], 3), ([FAR, None, 0], None)], 10 ** 40 - 1),
                         (FAR, None, 0)[(10 ** 40 - 4) % 3])
        self.assertEqual(patience_of([([4, 5], FAR), ([6], None)], FAR - 1), 5)
        self.assertEqual(patience_of([([4, 5], FAR), ([6], None)], FAR), 6)

    def test_no_person(self):
        for plan, many in (([([1, 0], 5)], 5), ([([1], 0)], 0), ([([1], None)], None), ([([1], 2), ([1], 3)], 5)):
            for person in no_people(many):
                with self.assertRaises(NoPerson):
                    patience_of(plan, person)


class Queue(unittest.TestCase):
    def check(self, plan, moment, people, left):
        self.assertEqual(queue_at(plan, moment), people)
        self.assertEqual(left_at(plan, moment), left)

    def test_by_hand(self):
        self.check([([1], None)], 0, [], [])
        self.check([([1], None)], 1, [0], [1])
        self.check([([1], None)], 2, [1, 0], [1, 0])
        self.check([([1], None)], 3, [1, 0, 2], [1, 0, 1])
        self.check([([0], 3)], 3, [0, 1, 2], [0, 0, 0])
        self.check([([None], 3)], 3, [2, 1, 0], [None, None, None])
        self.check([([None, 2], 4)], 4, [3, 2, 1, 0], [2, None, 0, None])
        self.check([([None, 2], None)], 5, [3, 2, 1, 4, 0], [2, None, 0, None, None])
        self.check([([FAR], 2)], 2, [1, 0], [FAR, FAR - 1])

    def test_one_whose_patience_ends_holds_whoever_stands_ahead(self):
        self.check([([2, 5, 0], 5)], 5, [2, 1, 0, 4, 3], [0, 4, 0, 5, 1])

    def test_one_by_one(self):
        for plan in small_plans():
            patiences = patiences_of(plan, 30)
            for moment in range(len(patiences) + 1):
                crowd = crowd_of(patiences[:moment])
                self.check(plan, moment, crowd.people, crowd.lefts())

    def test_the_most_that_are_listed(self):
        for plan in ([([3, 0, 2], FAR)], [([3, 0, 2], None)], [([3, 0, 2], 2000)]):
            crowd = crowd_of(patiences_of(plan, 2000))
            self.check(plan, 2000, crowd.people, crowd.lefts())
        self.check([([0], None)], 2000, list(range(2000)), [0] * 2000)
        self.check([([None], None)], 2000, list(range(1999, -1, -1)), [None] * 2000)

    def test_too_many(self):
        for ask in (queue_at, left_at):
            for plan in ([([1], None)], [([1], FAR)], [([1], 2000), ([0], 1)]):
                moments = (2001,) if how_many(plan) == 2001 else (2001, 2002, 10 ** 6, FAR)
                for moment in moments:
                    with self.assertRaises(TooMany) as caught:
                        ask(plan, moment)
                    self.assertEqual(caught.exception.args, ())

    def test_no_moment(self):
        for ask in (queue_at, left_at):
            for plan, many in (([([1], 5)], 5), ([([1], 0)], 0), ([([1], None)], None), ([([1], FAR)], FAR),
                               ([([1], 2000)], 2000)):
                for moment in no_moments(many):
                    with self.assertRaises(NoMoment):
                        ask(plan, moment)


class Refused(unittest.TestCase):
    def test_no_plan(self):
        for thing in no_plans():
            with self.subTest(repr(thing)[:60]):
                self.assertRaises(NoPlan, how_many, thing)
                self.assertRaises(NoPlan, patience_of, thing, 0)
                self.assertRaises(NoPlan, queue_at, thing, 0)
                self.assertRaises(NoPlan, left_at, thing, 0)

    def test_the_plan_goes_first(self):
        self.assertRaises(NoPlan, patience_of, [([1], True)], -1)
        self.assertRaises(NoPlan, queue_at, [], 2001)
        self.assertRaises(NoPlan, left_at, None, None)


if __name__ == "__main__":
    unittest.main()
