"""Points 13 and 14: the round of a plan, and all goings past together."""

import unittest

from comersline.errors import NoEnd, NoMoment, NoPlan
from comersline.lasts import last_of, unsafe_at, went_past
from comersline.plans import how_many
from comersline.rounds import passes_by, round_of
from comersline.windows import windows_around
from tests.farplans import FAR, far_plans, some_below
from tests.onebyone import brought_by, crowd_of, greatest_of, larger_plans, lasts_of, patiences_of, small_plans, \
    windows_by_hops
from tests.test_windows import falling_plan
from tests.wrongs import no_moments, no_plans


def endless(plans):
    return [plan for plan in plans if brought_by(plan) is None]


def start_of_last(plan):
    return sum(many for _, many in plan[:-1])


def round_by_hops(plan):
    """The round as point 13 tells it, by looking at one person after the other."""
    start, turns = start_of_last(plan), plan[-1][0]
    reach = start + 3 * (len(turns) + 1) * (greatest_of(plan) + 1)
    met = {}
    for person, around in enumerate(windows_by_hops(plan, reach)):
        if person >= start and around in ([], [(person, around[-1][1] if around else None)]):
            met.setdefault((person - start) % len(turns), []).append(person)
    first, later = min(people[:2] for people in met.values() if len(people) > 1)
    return first, later - first


class RoundOf(unittest.TestCase):
    def test_by_hops(self):
        for plan in endless(small_plans()):
            self.assertEqual(round_of(plan), round_by_hops(plan), plan)
        for plan in endless(larger_plans(30)):
            self.assertEqual(round_of(plan), round_by_hops(plan), plan)

    def test_by_hand(self):
        self.assertEqual(round_of([([0], None)]), (0, 1))
        self.assertEqual(round_of([([None], None)]), (0, 1))
        self.assertEqual(round_of([([0, 0, 0], None)]), (0, 3))
        self.assertEqual(round_of([([1], None)]), (0, 2))
        self.assertEqual(round_of([([1, 7], None)]), (0, 2))
        self.assertEqual(round_of([([2, 7], None)]), (3, 8))
        self.assertEqual(round_of([([2, 1], None)]), (3, 2))
        self.assertEqual(round_of([([1, 0, None], None)]), (0, 3))
        self.assertEqual(round_of([([FAR], None)]), (0, FAR + 1))
        self.assertEqual(round_of([([FAR, 0], None)]), (0, FAR + 2))
        self.assertEqual(round_of([([FAR - 1, 0], None)]), (0, FAR))
        self.assertEqual(round_of([([FAR, 1], None)]), (FAR + 1, 2))
        self.assertEqual(round_of([([None, FAR], None)]), (0, FAR + 2))

    def test_windows_that_reach_into_the_last_piece(self):
        self.assertEqual(round_of([([0], 3), ([1], None)]), (3, 2))
        self.assertEqual(round_of([([3], 3), ([1], None)]), (4, 2))
        self.assertEqual(round_of([([FAR], 1), ([1, 0], None)]), (FAR + 1, 2))
        self.assertEqual(round_of([([FAR], 1), ([0, 1], None)]), (FAR + 2, 2))
        self.assertEqual(round_of([([None], FAR), ([4], None)]), (FAR, 5))
        self.assertEqual(round_of([([2], 0), ([4], None)]), (0, 5))
        self.assertEqual(round_of([([2], 0), ([2], 1), ([9], 0), ([4, 0], None)]), (3, 6))

    def test_it_is_told_as_a_tuple_of_numbers(self):
        told = round_of([([0, 1], None)])
        self.assertIs(type(told), tuple)
        self.assertEqual([type(number) for number in told], [int, int])

    def test_no_end(self):
        for plan in ([([1], 5)], [([1], 0)], [([None], FAR)], [([1], 2), ([2], 3)]):
            self.assertRaises(NoEnd, round_of, plan)

    def test_no_plan(self):
        for thing in no_plans():
            with self.subTest(repr(thing)[:60]):
                self.assertRaises(NoPlan, round_of, thing)

    def test_from_first_on_it_comes_again(self):
        for plan in endless(far_plans()):
            first, many = round_of(plan)
            self.assertGreaterEqual(first, start_of_last(plan))
            self.assertIn(windows_around(plan, first)[:1], ([], [(first, last_of(plan, first))]))
            for person in some_below(FAR):
                for times in (1, 10 ** 8):
                    last = last_of(plan, first + person)
                    later = last_of(plan, first + person + times * many)
                    self.assertEqual(later, None if last is None else last + times * many)

    def test_lasts_come_again(self):
        for plan in endless(small_plans())[::3]:
            first, many = round_of(plan)
            for person in range(first, first + many):
                last, later = last_of(plan, person), last_of(plan, person + many)
                self.assertEqual(later, None if last is None else last + many)


class PassesBy(unittest.TestCase):
    def test_one_by_one(self):
        for number, plan in enumerate(small_plans()):
            patiences = patiences_of(plan, 40)
            for moment in range(number % 2, len(patiences) + 1, 2):
                past = crowd_of(patiences[:moment]).past
                self.assertEqual(passes_by(plan, moment), sum(map(len, past.values())), (plan, moment))

    def test_pairs_of_whom_the_later_one_stands_ahead(self):
        for plan in list(small_plans())[::4]:
            people = crowd_of(patiences_of(plan, 15)).people
            pairs = sum(newer > older for at, newer in enumerate(people) for older in people[at + 1:])
            self.assertEqual(passes_by(plan, len(people)), pairs, plan)

    def test_larger(self):
        for number, plan in enumerate(larger_plans(60)):
            patiences = patiences_of(plan, 900)
            lasts = lasts_of(patiences)
            for moment in range(number % 31, len(patiences) + 1, 31):
                ends = [moment - 1 if lasts[one] is None else min(lasts[one], moment - 1) for one in range(moment)]
                self.assertEqual(passes_by(plan, moment), sum(ends) - sum(range(moment)), (plan, moment))

    def test_as_many_as_went_past_each_of_few(self):
        for plan in far_plans():
            many = how_many(plan)
            for moment in (0, 1, 2, 7, 60):
                if many is None or moment <= many:
                    past = [went_past(plan, person, moment) for person in range(moment)]
                    self.assertEqual(passes_by(plan, moment), sum(past))

    def test_by_hand(self):
        for plan, moment, passes in (([([0], None)], FAR, 0), ([([1], None)], FAR, FAR // 2),
                                     ([([1], None)], FAR - 1, FAR // 2 - 1),
                                     ([([None], None)], FAR, FAR * (FAR - 1) // 2),
                                     ([([FAR], FAR)], FAR, FAR * (FAR - 1) // 2),
                                     ([([FAR - 1, 0], FAR)], FAR, FAR * FAR // 4),
                                     ([([FAR, 0], FAR)], FAR, FAR * FAR // 4),
                                     ([([2], None)], FAR - 1, FAR - 1), ([([2], None)], FAR, FAR - 1),
                                     ([([0], FAR // 2), ([None], FAR // 2)], FAR, (FAR // 2) * (FAR // 2 - 1) // 2),
                                     ([([0], FAR // 2), ([None], None)], FAR // 2 + 3, 3),
                                     ([([3, 0], None)], 0, 0), ([([3, 0], None)], 1, 0), ([([3, 0], None)], 4, 4),
                                     ([([1], 0)], 0, 0)):
            self.assertEqual(passes_by(plan, moment), passes, (plan, moment))

    def test_the_next_goes_past_all_that_are_not_safe(self):
        for plan in far_plans():
            for moment in some_below(how_many(plan) or FAR):
                more = passes_by(plan, moment + 1) - passes_by(plan, moment)
                self.assertEqual(more, unsafe_at(plan, moment), (plan, moment))

    def test_round_by_round(self):
        for plan in ([([7, 0, 2, 3, None, 1], None)], [([3], 50), ([5, 1, 0, 9, 2, 2], None)],
                     [([10 ** 9, 5], 10 ** 12), ([10 ** 8, 3, 0, 10 ** 7 + 3], None)]):
            first, many = round_of(plan)
            if unsafe_at(plan, first + many) > 0:
                continue
            once = passes_by(plan, first + many) - passes_by(plan, first)
            for times in (2, 3, 10 ** 9, (FAR - first) // many):
                self.assertEqual(passes_by(plan, first + times * many) - passes_by(plan, first), times * once)

    def test_within_one_another(self):
        """Sixty-four windows, each in the one ahead of it."""
        plan = falling_plan()
        patiences = patiences_of(plan, 300)
        for moment in (64, 65, 127, 128, 129, 130, 200, 300):
            past = crowd_of(patiences[:moment]).past
            self.assertEqual(passes_by(plan, moment), sum(map(len, past.values())))

    def test_a_wide_window_in_a_round(self):
        """A window over very many of a round, taken apart by hand."""
        wide = 3 * 10 ** 20
        plan = [([wide], 1), ([2], None)]
        self.assertEqual(passes_by(plan, wide + 1), wide + wide // 3 * 3)
        plan = [([wide + 1], 1), ([2], None)]
        self.assertEqual(passes_by(plan, wide + 2), wide + 1 + wide // 3 * 3)
        plan = [([wide + 2], 1), ([2], None)]
        self.assertEqual(passes_by(plan, wide + 3), wide + 2 + wide // 3 * 3 + 1)

    def test_the_same_people_by_other_pieces(self):
        turns = [7, 0, 10 ** 12, 3, None, 1, 10 ** 20, 2]
        cut = 8 * 10 ** 25
        for moment in some_below(FAR):
            whole = passes_by([(turns, FAR)], moment)
            self.assertEqual(passes_by([(turns, cut), (turns, 8), ([0], 0), (turns, FAR - cut - 8)], moment), whole)
            self.assertEqual(passes_by([(turns, None)], moment), whole)

    def test_no_plan(self):
        for thing in no_plans():
            with self.subTest(repr(thing)[:60]):
                self.assertRaises(NoPlan, passes_by, thing, 0)

    def test_no_moment(self):
        for plan, many in (([([1], 5)], 5), ([([1], None)], None), ([([1], FAR)], FAR), ([([1], 0)], 0)):
            for moment in no_moments(many):
                self.assertRaises(NoMoment, passes_by, plan, moment)
        self.assertRaises(NoPlan, passes_by, [([1], -1)], -1)


if __name__ == "__main__":
    unittest.main()
