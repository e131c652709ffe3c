"""Point 15: least plans, and whether two plans make one queue; and point 4 of it."""

import random
import unittest

from comersline.errors import NoMoment, NoPlan
from comersline.lasts import last_of, refuser_at, unsafe_at, went_past
from comersline.least import alike_at, are_alike, least_plan
from comersline.places import person_at
from comersline.plans import how_many, is_plan, queue_at
from comersline.rounds import passes_by
from tests.farplans import FAR, far_plans, some_below
from tests.onebyone import brought_by, crowd_of, greatest_of, larger_plans, least_by_each, patiences_of, small_plans
from tests.test_windows import falling_plan
from tests.wrongs import no_moments, no_plans


def lessened(plan):
    """The plans of which one patience is lesser by one, or a number instead of None."""
    for at, (turns, many) in enumerate(plan):
        for turn, patience in enumerate(turns):
            if patience != 0:
                lesser = FAR if patience is None else patience - 1
                yield plan[:at] + [(turns[:turn] + [lesser] + turns[turn + 1:], many)] + plan[at + 1:]


def people_at(plan, moment):
    return crowd_of(patiences_of(plan, moment)).people


def other_pieces(plan, chance):
    """The same people by other pieces and rounds, where they are few enough."""
    told = []
    for turns, many in plan:
        longer = turns * chance.randint(1, max(1, 8 // len(turns)))
        cut = chance.randint(0, 5) * len(turns)
        if many is not None and cut > many:
            cut = 0
        told += [(longer, cut), (turns, None if many is None else many - cut)]
    return told if len(told) <= 8 else plan


class LeastPlan(unittest.TestCase):
    def test_by_the_greatest_number_that_goes_past_each(self):
        for plan in small_plans():
            self.assertEqual(least_plan(plan), least_by_each(plan, 400), plan)

    def test_larger(self):
        for plan in larger_plans(60):
            reach = sum(many or 0 for _, many in plan) + 25 * (greatest_of(plan) + 1)
            self.assertEqual(least_plan(plan), least_by_each(plan, reach), plan)

    def test_no_lesser_one_makes_the_same_queue(self):
        for number, plan in enumerate(small_plans()):
            if number % 4 == 0 and brought_by(plan) is not None:
                moment = brought_by(plan)
                people = people_at(plan, moment)
                least = least_plan(plan)
                self.assertEqual(people_at(least, moment), people)
                for lesser in lessened(least):
                    self.assertNotEqual(people_at(lesser, moment), people)

    def test_by_hand(self):
        for plan, least in (([([0], 5)], [([0], 5)]), ([([5, 3, 2], 2)], [([1, 0, 0], 2)]),
                            ([([5], 0)], [([0], 0)]), ([([None, 1], 0), ([3], 4)], [([0, 0], 0), ([3], 4)]),
                            ([([3], 5)], [([3], 5)]), ([([None], 3)], [([2], 3)]),
                            ([([None], None)], [([None], None)]), ([([None, 3], None)], [([None, 3], None)]),
                            ([([1, None], None)], [([1, 0], None)]), ([([2, None], None)], [([2, None], None)]),
                            ([([3, None], None)], [([3, 2], None)]),
                            ([([3, FAR, None], None)], [([3, FAR, FAR - 1], None)]),
                            ([([4, 9], None)], [([4, 9], None)]), ([([5, 9], None)], [([5, 4], None)]),
                            ([([5, 5], None)], [([5, 4], None)]), ([([1, 1], None)], [([1, 0], None)]),
                            ([([7], 1), ([None], None)], [([7], 1), ([None], None)]),
                            ([([7], 1), ([None], 7)], [([7], 1), ([6], 7)]),
                            ([([7], 1), ([9], 7), ([0], None)], [([7], 1), ([6], 7), ([0], None)])):
            self.assertEqual(least_plan(plan), least, plan)

    def test_far_by_hand(self):
        for plan, least in (([([FAR], FAR)], [([FAR - 1], FAR)]), ([([FAR - 1], FAR)], [([FAR - 1], FAR)]),
                            ([([None], FAR)], [([FAR - 1], FAR)]), ([([FAR, 0], FAR)], [([FAR - 1, 0], FAR)]),
                            ([([0, FAR], FAR)], [([0, FAR - 2], FAR)]), ([([FAR], None)], [([FAR], None)]),
                            ([([FAR, FAR], None)], [([FAR, FAR], None)]),
                            ([([FAR - 1, FAR], None)], [([FAR - 1, FAR - 2], None)]),
                            ([([FAR], 1), ([None], FAR - 1), ([5], None)],
                             [([FAR], 1), ([FAR - 1], FAR - 1), ([5], None)]),
                            ([([FAR], 1), ([5], FAR - 1), ([None], None)],
                             [([FAR], 1), ([5], FAR - 1), ([None], None)])):
            self.assertEqual(least_plan(plan), least, plan)

    def test_within_one_another(self):
        plan = falling_plan()
        self.assertEqual(least_plan(plan)[:7], plan[:7])
        self.assertIs(are_alike(plan, least_plan(plan)), True)
        self.assertEqual(least_plan([(turns, many) for turns, many in plan[:7]] + [([None] * 8, 73)]),
                         plan[:7] + [([17, 16, 15, 14, 13, 12, 11, 10], 73)])

    def test_it_is_a_plan_of_the_same_pieces(self):
        for plan in list(far_plans()) + list(larger_plans(20)):
            least = least_plan(plan)
            self.assertTrue(is_plan(least))
            self.assertIs(type(least), list)
            for piece, (turns, many) in zip(least, plan):
                self.assertEqual([type(piece), type(piece[0])], [tuple, list])
                self.assertEqual((len(piece[0]), piece[1]), (len(turns), many))
                for patience, greatest in zip(piece[0], turns):
                    self.assertTrue(greatest is None or patience <= greatest)
                    self.assertTrue(patience is not None or many is None or how_many(plan) is None)

    def test_far_it_makes_the_same_queue(self):
        for plan in far_plans():
            least = least_plan(plan)
            self.assertIs(are_alike(plan, least), True)
            self.assertEqual(least_plan(least), least)
            for moment in some_below(how_many(plan) or FAR):
                self.assertIs(alike_at(plan, least, moment), True)
                self.assertEqual(passes_by(plan, moment), passes_by(least, moment))
                self.assertEqual(unsafe_at(plan, moment), unsafe_at(least, moment))
                self.assertEqual(last_of(plan, moment), last_of(least, moment))
                if moment > 0:
                    place = moment * 2 // 3
                    self.assertEqual(person_at(plan, moment, place), person_at(least, moment, place))

    def test_far_no_lesser_one_does(self):
        for plan in far_plans():
            for lesser in lessened(least_plan(plan)):
                self.assertIs(are_alike(plan, lesser), False, (plan, lesser))

    def test_no_plan(self):
        for thing in no_plans():
            with self.subTest(repr(thing)[:60]):
                self.assertRaises(NoPlan, least_plan, thing)


class AreAlike(unittest.TestCase):
    def test_plans_that_end(self):
        chance = random.Random(5)
        queues = {}
        plans = [plan for plan in small_plans() if brought_by(plan) is not None]
        for plan in plans:
            queues.setdefault(tuple(people_at(plan, brought_by(plan))), []).append(plan)
        for people, same in queues.items():
            for plan in same[:10]:
                self.assertIs(are_alike(same[0], plan), True, (same[0], plan))
        for _ in range(4000):
            plan, other = chance.choice(plans), chance.choice(plans)
            told = people_at(plan, brought_by(plan)) == people_at(other, brought_by(other))
            self.assertIs(are_alike(plan, other), told, (plan, other))

    def test_just_where_as_many_go_past_each(self):
        chance = random.Random(14)
        plans = [plan for plan in small_plans() if brought_by(plan) is not None]
        for _ in range(1500):
            plan, other = chance.choice(plans), chance.choice(plans)
            if chance.random() < 0.5:
                other = chance.choice(list(lessened(plan)) + [least_plan(plan)])
            many = brought_by(plan)
            past = [went_past(plan, person, many) for person in range(many)]
            told = brought_by(other) == many and past == [went_past(other, person, many) for person in range(many)]
            self.assertIs(are_alike(plan, other), told, (plan, other))

    def test_plans_without_end(self):
        chance = random.Random(6)
        plans = [plan for plan in small_plans() if brought_by(plan) is None and greatest_of(plan) <= 3]
        queues = [tuple(people_at(plan, 320)) for plan in plans]
        first = {}
        for plan, people in zip(plans, queues):
            self.assertIs(are_alike(plan, first.setdefault(people, plan)), True, plan)
        for _ in range(4000):
            one, other = chance.randrange(len(plans)), chance.randrange(len(plans))
            told = are_alike(plans[one], plans[other])
            self.assertIs(told, queues[one] == queues[other], (plans[one], plans[other]))

    def test_with_more_patience_than_is_used(self):
        chance = random.Random(7)
        for plan in list(small_plans())[::2]:
            moment = 320 if brought_by(plan) is None else brought_by(plan)
            for _ in range(2):
                other = []
                for turns, many in least_plan(plan):
                    some = [(used,) if used is None else (used, used, used, used + 1, None) for used in turns]
                    other.append(([chance.choice(more) for more in some], many))
                told = people_at(plan, moment) == people_at(other, moment)
                self.assertIs(are_alike(plan, other), told, (plan, other))
                self.assertIs(are_alike(other, plan), told, (plan, other))

    def test_other_pieces(self):
        chance = random.Random(8)
        for plan in list(small_plans()) + list(larger_plans(40)) + list(far_plans()):
            other = other_pieces(plan, chance)
            self.assertIs(are_alike(plan, other), True, (plan, other))
            self.assertIs(are_alike(other_pieces(least_plan(plan), chance), plan), True, (plan, other))

    def test_other_pieces_with_one_patience_lesser(self):
        chance = random.Random(9)
        for plan in far_plans():
            least = least_plan(plan)
            for lesser in list(lessened(least))[::3]:
                self.assertIs(are_alike(other_pieces(lesser, chance), plan), False, (plan, lesser))

    def test_as_many_are_due(self):
        self.assertIs(are_alike([([0], 5)], [([0], 6)]), False)
        self.assertIs(are_alike([([0], 5)], [([0], None)]), False)
        self.assertIs(are_alike([([0], None)], [([0], FAR)]), False)
        self.assertIs(are_alike([([0], 0)], [([0], 1)]), False)
        self.assertIs(are_alike([([0], 0)], [([None], 0), ([3], 0)]), True)
        self.assertIs(are_alike([([3], 1)], [([0, 2], 1)]), True)
        self.assertIs(are_alike([([0], None)], [([0, 0], 5), ([0, 0, 0], None)]), True)

    def test_rounds_of_unlike_lengths(self):
        self.assertIs(are_alike([([1], None)], [([1, 5], None)]), True)
        self.assertIs(are_alike([([1], None)], [([1, 0, 1, 2, 1, None], None)]), True)
        self.assertIs(are_alike([([1], None)], [([1, 0, 1, 2, 0, None], None)]), False)
        self.assertIs(are_alike([([1, 0], None)], [([1, 0, 1], None)]), False)
        self.assertIs(are_alike([([2], None)], [([2, 1, 0], None)]), True)
        self.assertIs(are_alike([([2, 2, 2, 2, 2, 2, 2, 2], None)], [([2, None, 0], None)]), True)
        self.assertIs(are_alike([([2, 2, 2, 2, 2, 2, 2, 2], None)], [([2, 1, 7], None)]), True)
        self.assertIs(are_alike([([2, 2, 2, 2, 2, 2, 2, 2], None)], [([2, 0, 7], None)]), False)
        self.assertIs(are_alike([([0] * 7, None)], [([0] * 8, None)]), True)
        self.assertIs(are_alike([([0] * 7, None)], [([0] * 7 + [1], None)]), False)
        self.assertIs(are_alike([([None] * 7, None)], [([None] * 8, None)]), True)
        self.assertIs(are_alike([([None], None)], [([FAR], None)]), False)
        self.assertIs(are_alike([([None], FAR)], [([FAR - 1], FAR)]), True)
        self.assertIs(are_alike([([None], FAR)], [([FAR - 2], FAR)]), False)

    def test_first_unlike_far_away(self):
        for plan, other, moment in (([([0], FAR - 7), ([1], None)], [([0], FAR - 6), ([1], None)], FAR - 5),
                                    ([([0, 1], None)], [([0, 1], FAR - 6), ([1, 0], None)], FAR - 3),
                                    ([([2], FAR // 2), ([0], None)], [([2], FAR // 2), ([2], None)], None),
                                    ([([FAR - 9], None)], [([FAR - 8], None)], FAR - 7),
                                    ([([FAR - 9, None], None)], [([FAR - 8, None], None)], FAR - 7),
                                    ([([FAR - 9, 3], FAR)], [([FAR - 9, 3], FAR - 2), ([0, 3], 2)], FAR)):
            if moment is not None:
                self.assertIs(alike_at(plan, other, moment - 1), True, (plan, other))
                self.assertIs(alike_at(plan, other, moment), False, (plan, other))
                self.assertIs(alike_at(plan, other, FAR), False)
            self.assertIs(alike_at(plan, other, 1000), True)
            self.assertIs(are_alike(plan, other), False)
            self.assertIs(are_alike(other, plan), False)

    def test_first_unlike_beyond_all_moments(self):
        for plan, other in (([([0], FAR - 1), ([1], None)], [([0], FAR), ([1], None)]),
                            ([([FAR], None)], [([None], None)]), ([([FAR], None)], [([FAR - 1, FAR], None)]),
                            ([([1], FAR), ([FAR], None)], [([1], FAR), ([None], None)]),
                            ([([1], FAR), ([0], None)], [([1], None)])):
            self.assertIs(alike_at(plan, other, FAR - 1), True)
            self.assertIs(are_alike(plan, other), False)
            self.assertIs(are_alike(other, plan), False)

    def test_plans_of_many_turns(self):
        """Eight pieces of eight, against eight of seven: cut at fifteen places into rounds of 56."""
        chance = random.Random(10)
        one = [([chance.randint(0, 10 ** 9) for _ in range(8)], FAR // 9 + at) for at in range(7)]
        other = [([chance.randint(0, 10 ** 9) for _ in range(7)], FAR // 10 + at) for at in range(7)]
        one.append(([5, 1, 2, 0, 9, 3, 8, 1], None))
        other.append(([2, 1, 7, 0, 9, 3, 1], None))
        self.assertIs(are_alike(one, other), False)
        self.assertIs(alike_at(one, other, FAR), False)
        self.assertIs(are_alike(one, one), True)
        self.assertIs(are_alike([(turns + [1], many) for turns, many in other], other), False)


class AlikeAt(unittest.TestCase):
    def test_one_by_one(self):
        chance = random.Random(12)
        plans = list(small_plans())
        told = {True: 0, False: 0}
        for _ in range(6000):
            plan, other = chance.choice(plans), chance.choice(plans)
            moment = chance.randint(0, 9)
            if any(brought_by(one) is not None and brought_by(one) < moment for one in (plan, other)):
                continue
            same = people_at(plan, moment) == people_at(other, moment)
            self.assertIs(alike_at(plan, other, moment), same, (plan, other, moment))
            told[same] += 1
        self.assertGreater(min(told.values()), 1000)

    def test_plans_that_are_nearly_alike(self):
        chance = random.Random(13)
        for plan in small_plans():
            least = least_plan(plan)
            lesser = list(lessened(least))
            if not lesser:
                continue
            other = chance.choice(lesser)
            for moment in range(0, 15 if brought_by(plan) is None else brought_by(plan) + 1):
                same = people_at(plan, moment) == people_at(other, moment)
                self.assertIs(alike_at(plan, other, moment), same, (plan, other, moment))

    def test_of_plans_that_bring_unlike_many(self):
        self.assertIs(alike_at([([0], 5)], [([0], 6)], 5), True)
        self.assertIs(alike_at([([1], 2)], [([None], None)], 2), True)
        self.assertIs(alike_at([([1], 3)], [([None], None)], 3), False)
        self.assertIs(alike_at([([1], 0)], [([None], None)], 0), True)
        self.assertIs(alike_at([([None], FAR)], [([FAR - 1], None)], FAR), True)
        self.assertIs(alike_at([([None], FAR)], [([FAR - 2], None)], FAR), False)
        self.assertIs(alike_at([([None], FAR)], [([FAR - 2], None)], FAR - 1), True)

    def test_as_the_queues_are_listed(self):
        plan = [([3, 0, None, 40], 300), ([700, 2], 900), ([5, 1, 0], None)]
        for other in lessened(least_plan(plan)):
            for moment in (0, 1, 5, 44, 299, 301, 700, 1000, 1300, 2000):
                self.assertIs(alike_at(plan, other, moment), queue_at(plan, moment) == queue_at(other, moment))

    def test_just_where_the_refusers_are_unlike(self):
        """Whose last patience is gone at the one, and not at the other, lets the next one past."""
        plan = [([10 ** 20, 3, 1], FAR // 2), ([7], None)]
        other = [([10 ** 20, 3, 1], FAR // 2), ([7, 8], None)]
        low, high = 0, FAR
        while high - low > 1:
            middle = (low + high) // 2
            low, high = (middle, high) if alike_at(plan, other, middle) else (low, middle)
        self.assertGreater(high, FAR // 2)
        self.assertNotEqual(unsafe_at(plan, low), unsafe_at(other, low))
        self.assertNotEqual(refuser_at(plan, low), refuser_at(other, low))
        for moment in some_below(low):
            self.assertIs(alike_at(plan, other, moment), True)
        for later in some_below(FAR - high):
            self.assertIs(alike_at(plan, other, high + later), False)


class Refused(unittest.TestCase):
    def test_no_plan(self):
        for thing in no_plans():
            with self.subTest(repr(thing)[:60]):
                self.assertRaises(NoPlan, are_alike, thing, [([1], 1)])
                self.assertRaises(NoPlan, are_alike, [([1], 1)], thing)
                self.assertRaises(NoPlan, are_alike, thing, thing)
                self.assertRaises(NoPlan, alike_at, thing, [([1], 1)], 0)
                self.assertRaises(NoPlan, alike_at, [([1], 1)], thing, 0)

    def test_no_moment_of_the_one_or_the_other(self):
        for plan, many in (([([1], 5)], 5), ([([1], 0)], 0), ([([1], None)], None), ([([1], FAR)], FAR)):
            for moment in no_moments(many):
                self.assertRaises(NoMoment, alike_at, plan, [([1], None)], moment)
                self.assertRaises(NoMoment, alike_at, [([1], None)], plan, moment)
                self.assertRaises(NoMoment, alike_at, plan, plan, moment)

    def test_several_at_once(self):
        self.assertRaises(NoPlan, alike_at, [([1], -1)], None, -1)
        self.assertRaises(NoPlan, alike_at, [([1], 5)], None, 6)
        self.assertRaises(NoPlan, alike_at, None, [([1], 5)], 6)
        self.assertRaises(NoPlan, are_alike, [([1], 5)], True)


if __name__ == "__main__":
    unittest.main()
