"""Points 7 and 8: who goes past whom, who stands ahead, and who is not safe."""

import unittest

from comersline.errors import NoMoment, NoOther, NoPerson, NoPlan
from comersline.lasts import last_of, refuser_at, unsafe_at, went_past, who_ahead
from tests.onebyone import crowd_of, lasts_of, larger_plans, patiences_of, small_plans
from tests.wrongs import no_moments, no_people, no_plans

FAR = 10 ** 30


class OneByOne(unittest.TestCase):
    """The answers held against people who come one by one."""

    MANY = 40

    def test_lasts(self):
        for plan in small_plans():
            patiences = patiences_of(plan, self.MANY)
            ends = plan[-1][1] is not None
            crowd = crowd_of(patiences)
            unsafe = crowd.unsafe()
            for person in range(len(patiences)):
                past = crowd.past[person]
                self.assertEqual(past, list(range(person + 1, person + 1 + len(past))))
                if ends and person in unsafe:
                    self.assertEqual(last_of(plan, person), len(patiences) - 1, (plan, person))
                elif person not in unsafe:
                    self.assertEqual(last_of(plan, person), past[-1] if past else person, (plan, person))
                elif last_of(plan, person) is not None:
                    self.assertGreaterEqual(last_of(plan, person), len(patiences), (plan, person))

    def test_unsafe_and_refusers(self):
        for plan in small_plans():
            patiences = patiences_of(plan, self.MANY)
            for moment in range(len(patiences) + 1):
                crowd = crowd_of(patiences[:moment])
                refusers = crowd.refusers()
                self.assertEqual(unsafe_at(plan, moment), len(crowd.unsafe()), (plan, moment))
                self.assertEqual(refuser_at(plan, moment), refusers[-1] if refusers else None, (plan, moment))

    def test_how_many_went_past(self):
        for number, plan in enumerate(small_plans()):
            if number % 3:
                continue
            patiences = patiences_of(plan, 25)
            for moment in range(1, len(patiences) + 1):
                crowd = crowd_of(patiences[:moment])
                for person in range(moment):
                    self.assertEqual(went_past(plan, person, moment), len(crowd.past[person]))

    def test_who_stands_ahead(self):
        for number, plan in enumerate(small_plans()):
            if number % 5:
                continue
            people = crowd_of(patiences_of(plan, 20)).people
            for place, one in enumerate(people):
                for other in people[place + 1:]:
                    self.assertEqual(who_ahead(plan, one, other), one, (plan, one, other))
                    self.assertEqual(who_ahead(plan, other, one), one, (plan, one, other))

    def test_the_whole(self):
        """Point 4: at every moment those not safe stand at the end, the newest in front, and
        the others never change their places again."""
        for number, plan in enumerate(small_plans()):
            if number % 5:
                continue
            patiences = patiences_of(plan, 20)
            before = []
            for moment in range(len(patiences) + 1):
                people = crowd_of(patiences[:moment]).people
                safe = len(people) - unsafe_at(plan, moment)
                self.assertEqual(people[safe:], sorted(people[safe:], reverse=True))
                self.assertEqual(people[:len(before)], before)
                before = people[:safe]
                pairs = sum(newer > older for at, newer in enumerate(people) for older in people[at + 1:])
                self.assertEqual(sum(went_past(plan, person, moment) for person in people), pairs)


class Larger(unittest.TestCase):
    """Pieces that go round often, held against the lasts one newcomer after the other."""

    def test_against_the_rule_itself(self):
        for plan in small_plans():
            patiences = patiences_of(plan, 30)
            crowd = crowd_of(patiences)
            unsafe = crowd.unsafe()
            expected = [None if one in unsafe else one + len(crowd.past[one]) for one in range(len(patiences))]
            self.assertEqual(lasts_of(patiences), expected)

    def test_lasts(self):
        for plan in larger_plans(80):
            patiences = patiences_of(plan, 1500)
            ends = plan[-1][1] is not None
            for person, last in enumerate(lasts_of(patiences)):
                if last is not None:
                    self.assertEqual(last_of(plan, person), last, (plan, person))
                elif ends:
                    self.assertEqual(last_of(plan, person), len(patiences) - 1, (plan, person))
                else:
                    told = last_of(plan, person)
                    self.assertTrue(told is None or told >= len(patiences), (plan, person))

    def test_unsafe_and_refusers(self):
        for plan in larger_plans(60):
            patiences = patiences_of(plan, 400)
            lasts = lasts_of(patiences)
            for moment in range(len(patiences) + 1):
                unsafe = [one for one in range(moment) if lasts[one] is None or lasts[one] >= moment]
                refusers = [one for one in range(moment) if lasts[one] is not None and lasts[one] < moment
                            and patiences[one] == lasts[one] - one]
                self.assertEqual(unsafe_at(plan, moment), len(unsafe), (plan, moment))
                # Of those that let nobody past the one farthest back is the first of the greatest last.
                farthest = min(refusers, key=lambda one: (-lasts[one], one)) if refusers else None
                self.assertEqual(refuser_at(plan, moment), farthest, (plan, moment))


class ByHand(unittest.TestCase):
    def test_patience_none_at_all(self):
        plan = [([0], None)]
        for person in (0, 1, FAR, 10 ** 40 - 1):
            self.assertEqual(last_of(plan, person), person)
        self.assertEqual(unsafe_at(plan, FAR), 0)
        self.assertEqual(refuser_at(plan, FAR), FAR - 1)
        self.assertEqual(refuser_at(plan, 1), 0)
        self.assertIsNone(refuser_at(plan, 0))

    def test_patience_that_never_ends(self):
        plan = [([None], None)]
        for person in (0, 1, FAR, 10 ** 40 - 1):
            self.assertIsNone(last_of(plan, person))
        self.assertEqual(unsafe_at(plan, 0), 0)
        self.assertEqual(unsafe_at(plan, FAR), FAR)
        self.assertIsNone(refuser_at(plan, FAR))
        self.assertEqual(went_past(plan, 0, FAR), FAR - 1)
        self.assertEqual(went_past(plan, FAR - 1, FAR), 0)
        self.assertEqual(who_ahead(plan, 10 ** 40 - 1, 0), 10 ** 40 - 1)

    def test_where_the_plan_ends(self):
        self.assertEqual(last_of([([5], 3)], 0), 2)
        self.assertEqual(last_of([([5], 3)], 2), 2)
        self.assertEqual(last_of([([None], 3)], 1), 2)
        self.assertEqual(last_of([([None], 1)], 0), 0)
        self.assertEqual(last_of([([None, 1], 3)], 1), 2)
        self.assertEqual(last_of([([0, None], 3)], 0), 0)
        self.assertEqual(unsafe_at([([5], 3)], 3), 3)
        self.assertEqual(unsafe_at([([2], 3)], 3), 0)
        self.assertEqual(refuser_at([([2], 3)], 3), 0)

    def test_a_pair_after_the_other(self):
        plan = [([1], None)]
        self.assertEqual([last_of(plan, person) for person in range(6)], [1, 1, 3, 3, 5, 5])
        self.assertEqual(last_of(plan, FAR), FAR + 1)
        self.assertEqual(last_of(plan, FAR + 1), FAR + 1)
        self.assertEqual([unsafe_at(plan, moment) for moment in (0, 1, 2, 3, FAR - 1, FAR)], [0, 1, 0, 1, 1, 0])
        self.assertEqual([refuser_at(plan, moment) for moment in (0, 1, 2, 3, 4, FAR - 1, FAR)],
                         [None, None, 0, 0, 2, FAR - 4, FAR - 2])
        self.assertEqual(went_past(plan, 0, 1), 0)
        self.assertEqual(went_past(plan, 0, 2), 1)
        self.assertEqual(went_past(plan, 0, FAR), 1)
        self.assertEqual(went_past(plan, 1, FAR), 0)

    def test_one_window_over_all(self):
        plan = [([FAR, 0], FAR)]
        self.assertEqual(last_of(plan, 0), FAR - 1)
        self.assertEqual(last_of(plan, 1), 1)
        self.assertEqual(last_of(plan, 2), FAR - 1)
        self.assertEqual(unsafe_at(plan, FAR), FAR // 2)
        self.assertEqual(refuser_at(plan, FAR), FAR - 1)
        plan = [([FAR - 1], 1), ([1], FAR - 1)]
        self.assertEqual(last_of(plan, 0), FAR - 1)
        self.assertEqual(unsafe_at(plan, FAR), 0)
        self.assertEqual(refuser_at(plan, FAR), 0)
        self.assertEqual(unsafe_at(plan, FAR - 1), 1)
        self.assertEqual(refuser_at(plan, FAR - 1), FAR - 3)
        self.assertEqual([last_of(plan, FAR - at) for at in (3, 2, 1)], [FAR - 2, FAR - 2, FAR - 1])

    def test_pieces_of_nobody(self):
        bare = [([2, 0], 5), ([1], None)]
        padded = [([None], 0), ([2, 0], 5), ([9], 0), ([0], 0), ([1], None)]
        for person in list(range(12)) + [FAR, FAR + 1]:
            self.assertEqual(last_of(padded, person), last_of(bare, person))
        for moment in list(range(12)) + [FAR]:
            self.assertEqual(unsafe_at(padded, moment), unsafe_at(bare, moment))
            self.assertEqual(refuser_at(padded, moment), refuser_at(bare, moment))
        self.assertEqual(unsafe_at([([3], 0)], 0), 0)
        self.assertIsNone(refuser_at([([3], 0)] * 8, 0))


class Far(unittest.TestCase):
    """Ten to the thirtieth people, held against few that stand alike."""

    def test_rounds_come_again(self):
        for turns in ([1], [3, 0, 2], [2, 5, 1, 0, 7], [4, 4, 1], [6, 0], [1, 9, 0, 2, 2, 17, 5, 30]):
            plan = [(turns, None)]
            lasts = lasts_of(patiences_of(plan, 1000))
            first, period = self.windows_again(lasts, turns)
            shift = (FAR // period - 400) * period
            for person in range(first, first + 200):
                self.assertEqual(last_of(plan, person + shift), lasts[person] + shift, (turns, person))
                self.assertEqual(last_of(plan, person + shift * 10 ** 9), lasts[person] + shift * 10 ** 9)
                self.assertEqual(unsafe_at(plan, person + shift), unsafe_at(plan, person))
                refuser = refuser_at(plan, person)
                if refuser is not None and refuser >= first:
                    self.assertEqual(refuser_at(plan, person + shift), refuser + shift)

    def windows_again(self, lasts, turns):
        """The first that opens a window with none around it at a turn where another one does,
        and how many later that one comes."""
        person, met = 0, {}
        while person % len(turns) not in met:
            met[person % len(turns)] = person
            person = lasts[person] + 1
        first = met[person % len(turns)]
        return first, person - first

    def test_a_wide_window_is_as_a_narrow_one(self):
        """Rounds that go on within a window, and all that doesn't fit in it at its last."""
        for within in ([1], [2, 0], [3, 1, 4], [5, None, 2], [20, 3]):
            for brings in (61, 64, 67, 70):
                wide = 10 ** 26 * 2520
                small = [([brings], 1), (within, None)]
                great = [([brings + wide], 1), (within, None)]
                lasts = lasts_of(patiences_of(small, brings + 1))
                inner = self.inner_period(within)
                self.assertEqual(wide % inner, 0)
                for person in range(inner + 1, brings + 1):
                    self.assertEqual(last_of(great, person + wide), lasts[person] + wide, (within, brings, person))
                self.assertEqual(last_of(great, 0), brings + wide)

    def inner_period(self, within):
        """How far the round goes on till it comes again to the same turn, when all fits."""
        turn, gone, met = 0, 0, {}
        while turn not in met:
            met[turn] = gone
            step = 1 if within[turn] is None else within[turn] + 1
            gone += step
            turn = (turn + step) % len(within)
        return gone - met[turn]

    def test_pieces_cut_in_two_are_the_same(self):
        turns = [7, 0, 10 ** 12, 3, None, 1, 10 ** 20, 2]
        cut = 8 * 10 ** 25
        whole = [(turns, FAR)]
        parts = [(turns, cut), (turns, 8), (turns, FAR - cut - 8)]
        people = [0, 1, 2, 6, 7, 8, 1000, cut - 1, cut, cut + 7, cut + 8, cut + 9, FAR // 3, FAR - 9, FAR - 2, FAR - 1]
        for person in people:
            self.assertEqual(last_of(parts, person), last_of(whole, person))
            self.assertEqual(unsafe_at(parts, person + 1), unsafe_at(whole, person + 1))
            self.assertEqual(refuser_at(parts, person + 1), refuser_at(whole, person + 1))

    def test_neighbours(self):
        """The newcomer that goes past the one before has its last within that one's."""
        turns = [7, 0, 10 ** 12, 3, 10 ** 29, 1, 10 ** 20, 2]
        plan = [(turns, 10 ** 28), (turns[::-1], 10 ** 29), ([5, None, 10 ** 15], None)]
        for start in (1, 10 ** 12, 10 ** 20, 10 ** 28 - 50, 10 ** 29, 11 * 10 ** 28 - 50, FAR, 10 ** 39):
            for person in range(start, start + 100):
                around, last = last_of(plan, person - 1), last_of(plan, person)
                self.assertTrue(last is None or last >= person)
                if around is not None and around >= person:
                    self.assertLessEqual(last, around)
                    self.assertEqual(who_ahead(plan, person, person - 1), person)
                if around == person - 1:
                    self.assertEqual(who_ahead(plan, person, person - 1), person - 1)

    def test_by_a_moment(self):
        plan = [([FAR, 3], None)]
        self.assertEqual(last_of(plan, FAR), FAR)
        self.assertEqual(last_of(plan, 0), FAR)
        self.assertEqual(went_past(plan, 0, FAR), FAR - 1)
        self.assertEqual(went_past(plan, 0, 1), 0)
        self.assertEqual(went_past(plan, 1, FAR), 3)
        self.assertEqual(went_past(plan, FAR - 1, FAR), 0)
        self.assertEqual(who_ahead(plan, 0, FAR), FAR)
        self.assertEqual(who_ahead(plan, FAR + 1, 0), 0)


class Refused(unittest.TestCase):
    def test_no_plan(self):
        for thing in no_plans():
            with self.subTest(repr(thing)[:60]):
                self.assertRaises(NoPlan, last_of, thing, 0)
                self.assertRaises(NoPlan, went_past, thing, 0, 1)
                self.assertRaises(NoPlan, who_ahead, thing, 0, 1)
                self.assertRaises(NoPlan, unsafe_at, thing, 0)
                self.assertRaises(NoPlan, refuser_at, thing, 0)

    def test_no_person(self):
        for plan, many in (([([1], 5)], 5), ([([1], None)], None), ([([1], 3), ([0, None], 7)], 10)):
            for person in no_people(many):
                self.assertRaises(NoPerson, last_of, plan, person)
                self.assertRaises(NoPerson, went_past, plan, person, 1)
                self.assertRaises(NoPerson, who_ahead, plan, person, 1)
                self.assertRaises(NoPerson, who_ahead, plan, 1, person)
                self.assertRaises(NoPerson, who_ahead, plan, person, person)
        self.assertRaises(NoPerson, last_of, [([1], 0)], 0)
        self.assertRaises(NoPerson, last_of, [([1], FAR)], FAR)

    def test_no_moment(self):
        for plan, many in (([([1], 5)], 5), ([([1], None)], None), ([([1], FAR)], FAR)):
            for moment in no_moments(many):
                self.assertRaises(NoMoment, unsafe_at, plan, moment)
                self.assertRaises(NoMoment, refuser_at, plan, moment)
                self.assertRaises(NoMoment, went_past, plan, 0, moment)

    def test_no_moment_up_to_the_person(self):
        plan = [([1], None)]
        for person in (0, 1, 5, FAR - 1):
            for moment in (0, person - 1, person):
                if moment >= 0:
                    self.assertRaises(NoMoment, went_past, plan, person, moment)
            self.assertEqual(went_past(plan, person, person + 1), 0)
        self.assertRaises(NoMoment, went_past, plan, FAR, FAR)
        self.assertRaises(NoMoment, went_past, plan, 10 ** 40 - 1, FAR)

    def test_no_other(self):
        for person in (0, 3, FAR, 10 ** 40 - 1):
            self.assertRaises(NoOther, who_ahead, [([1], None)], person, person)
        self.assertRaises(NoOther, who_ahead, [([1], 1)], 0, 0)

    def test_several_at_once(self):
        self.assertRaises(NoPlan, who_ahead, [([1], -1)], -1, -1)
        self.assertRaises(NoPlan, went_past, [([1], -1)], -1, -1)
        self.assertRaises(NoPerson, went_past, [([1], 3)], 3, 4)
        self.assertRaises(NoPerson, went_past, [([1], 3)], True, False)
        self.assertRaises(NoPerson, who_ahead, [([1], 3)], 1, True)
        self.assertRaises(NoPerson, who_ahead, [([1], 3)], 1, 1.0)
        self.assertRaises(NoPerson, who_ahead, [([1], 3)], 0, False)


if __name__ == "__main__":
    unittest.main()
