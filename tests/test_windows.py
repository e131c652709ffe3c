"""Points 10 to 12: windows, and point 4 of them."""

import unittest

from comersline.errors import NoPerson, NoPlan
from comersline.lasts import last_of
from comersline.places import person_at, place_of
from comersline.plans import how_many, patience_of
from comersline.windows import is_around, window_of, windows_around
from tests.farplans import far_plans, some_below
from tests.onebyone import brought_by, crowd_of, larger_plans, patiences_of, small_plans, windows_by_hops
from tests.wrongs import Odd, deep, no_numbers, no_people, no_plans, within_itself

FAR = 10 ** 30


def falling_plan():
    """Sixty-four people, each with a window in the one of the person before."""
    return [([2 * (64 - person) for person in range(at, at + 8)], 8) for at in range(0, 56, 8)] + \
        [([16, 14, 12, 10, 8, 6, 4, 2], None)]


class OneByOne(unittest.TestCase):
    def check(self, plan, many):
        for person, around in enumerate(windows_by_hops(plan, many)):
            own = around[-1] if around and around[-1][0] == person else None
            self.assertEqual(windows_around(plan, person), around, (plan, person))
            self.assertEqual(window_of(plan, person), own, (plan, person))

    def test_by_hops(self):
        for plan in small_plans():
            self.check(plan, 45)

    def test_by_longer_hops(self):
        for plan in larger_plans(30):
            self.check(plan, 900)

    def test_lasts(self):
        """Point 11: by a window's last, of the innermost around who is left over, else by the end."""
        for plan in small_plans():
            brings = brought_by(plan)
            for person, around in enumerate(windows_by_hops(plan, 30)):
                ends = None if brings is None else brings - 1
                self.assertEqual(last_of(plan, person), around[-1][1] if around else ends, (plan, person))

    def test_how_a_window_stands(self):
        """At its last: the windows right within it, those left over, the newest first, its opener."""
        for number, plan in enumerate(small_plans()):
            if number % 2:
                continue
            hops = windows_by_hops(plan, 40)
            people = crowd_of(patiences_of(plan, 40)).people
            self.assertEqual(len(hops), len(people))
            for opener, around in enumerate(hops):
                if not around or around[-1][0] != opener or around[-1][1] >= len(hops):
                    continue
                last = around[-1][1]
                start = people.index(opener) - (last - opener)
                self.assertEqual(people[start:start + last - opener + 1], self.stand(hops, opener, last))

    def stand(self, hops, opener, last):
        standing, spare, person = [], [], opener + 1
        while person <= last:
            within = hops[person][-1]
            if within[0] == person:
                standing += self.stand(hops, person, within[1])
                person = within[1]
            else:
                spare.append(person)
            person += 1
        return standing + spare[::-1] + [opener]


class ByHand(unittest.TestCase):
    def test_patience_none_at_all(self):
        for person in (0, 5, FAR, 10 ** 40 - 1):
            self.assertEqual(window_of([([0], None)], person), (person, person))
            self.assertEqual(windows_around([([0], None)], person), [(person, person)])

    def test_patience_that_never_ends(self):
        for plan in ([([None], None)], [([None], FAR)]):
            for person in (0, 5, FAR - 1):
                self.assertIsNone(window_of(plan, person))
                self.assertEqual(windows_around(plan, person), [])
        self.assertIsNone(window_of([([3, None], None)], 1))
        self.assertEqual(windows_around([([3, None], None)], 1), [(0, 3)])

    def test_a_last_that_just_comes_and_one_that_just_does_not(self):
        self.assertEqual(window_of([([4], 5)], 0), (0, 4))
        self.assertIsNone(window_of([([5], 5)], 0))
        self.assertEqual(windows_around([([5], 5)], 4), [])
        self.assertEqual(window_of([([FAR - 1, 2], FAR)], 0), (0, FAR - 1))
        self.assertIsNone(window_of([([FAR, 2], FAR)], 0))
        self.assertEqual(windows_around([([FAR, 2], FAR)], 1), [(1, 3)])
        self.assertEqual(window_of([([FAR], None)], 0), (0, FAR))
        self.assertIsNone(window_of([([FAR], None)], FAR))
        self.assertEqual(window_of([([FAR], None)], FAR + 1), (FAR + 1, 2 * FAR + 1))

    def test_windows_that_end_where_the_one_around_them_ends(self):
        plan = [([5, 4, 3, 2, 1, 0], None)]
        self.assertEqual(windows_around(plan, 3), [(0, 5), (1, 5), (2, 5), (3, 5)])
        self.assertEqual(window_of(plan, 5), (5, 5))
        self.assertEqual(len(windows_around(plan, 6 * FAR + 5)), 6)
        self.assertEqual(windows_around([([5, 5, 3], None)], 2), [(0, 5), (2, 5)])
        self.assertIsNone(window_of([([5, 5, 3], None)], 1))

    def test_within_one_another(self):
        plan = falling_plan()
        around = windows_around(plan, 63)
        self.assertEqual(around, [(person, 128 - person) for person in range(64)])
        self.assertEqual(windows_around(plan, 64), around)
        self.assertEqual(windows_around(plan, 65), around)
        self.assertEqual(last_of(plan, 65), 65)

    def test_the_first_and_the_last_of_a_piece(self):
        plan = [([2], 3), ([1, 0], 4), ([9], 0), ([3, 3], None)]
        self.assertEqual([window_of(plan, person) for person in range(9)],
                         [(0, 2), None, None, (3, 4), (4, 4), (5, 6), (6, 6), (7, 10), None])
        plan = [([3], 3), ([1, 0], 4), ([2, 1], 5)]
        self.assertEqual([window_of(plan, person) for person in range(12)],
                         [(0, 3), None, None, None, (4, 4), (5, 6), (6, 6), (7, 9), (8, 9), None, (10, 11), None])

    def test_pieces_of_nobody(self):
        bare = [([2, 0], 5), ([1], None)]
        padded = [([None], 0), ([2, 0], 5), ([9], 0), ([0], 0), ([1], None)]
        for person in list(range(12)) + [FAR, FAR + 1]:
            self.assertEqual(windows_around(padded, person), windows_around(bare, person))


class Far(unittest.TestCase):
    def people(self):
        for plan in far_plans():
            many = how_many(plan)
            people = some_below(many) if many is not None else some_below(FAR) + some_below(10 ** 40)
            for person in people:
                yield plan, person

    def test_each_in_the_one_ahead_of_it(self):
        for plan, person in self.people():
            around = windows_around(plan, person)
            for (opener, last), (inner, end) in zip(around, around[1:]):
                self.assertTrue(opener < inner <= end <= last)
                self.assertLess(patience_of(plan, inner), patience_of(plan, opener))
            for at, (opener, last) in enumerate(around):
                self.assertTrue(opener <= person <= last)
                self.assertEqual(last, opener + patience_of(plan, opener))
                self.assertEqual(window_of(plan, opener), (opener, last))
                self.assertEqual(windows_around(plan, opener), around[:at + 1])
                self.assertEqual(windows_around(plan, last)[:at + 1], around[:at + 1])

    def test_lasts(self):
        for plan, person in self.people():
            around = windows_around(plan, person)
            many = how_many(plan)
            ends = None if many is None else many - 1
            self.assertEqual(last_of(plan, person), around[-1][1] if around else ends)

    def test_the_one_behind(self):
        """Behind a window, and behind who is left over, it goes on with the same around it."""
        for plan, person in self.people():
            around = windows_around(plan, person)
            own = window_of(plan, person)
            outer = around if own is None else around[:-1]
            behind = person + 1 if own is None else own[1] + 1
            many = how_many(plan)
            if behind == many or (outer and behind > outer[-1][1]):
                continue
            after = windows_around(plan, behind)
            self.assertEqual(after if window_of(plan, behind) is None else after[:-1], outer)

    def test_the_opener_stands_last_of_its_window(self):
        for plan, person in self.people():
            many = how_many(plan)
            moment = FAR if many is None else many
            for opener, last in windows_around(plan, person):
                if last < moment:
                    place = place_of(plan, moment, opener)
                    for standing in (place, place - 1, place - (last - opener)):
                        if standing >= place - (last - opener):
                            self.assertTrue(opener <= person_at(plan, moment, standing) <= last)


class IsAround(unittest.TestCase):
    PLAN = [([5, 4, 1, 0], None)]

    def test_lists_and_tuples_are_one_here(self):
        for thing in ([(0, 5), (1, 5), (2, 3)], ((0, 5), (1, 5), (2, 3)), [[0, 5], (1, 5), [2, 3]],
                      ([0, 5], [1, 5], [2, 3])):
            self.assertIs(is_around(self.PLAN, 2, thing), True)
        self.assertIs(is_around([([None], None)], 2, []), True)
        self.assertIs(is_around([([None], None)], 2, ()), True)

    def test_what_is_told_is_around(self):
        for plan in list(far_plans()) + [falling_plan()]:
            for person in some_below(how_many(plan) or 10 ** 40):
                around = windows_around(plan, person)
                self.assertIs(is_around(plan, person, around), True)
                self.assertIs(is_around(plan, person, tuple(list(window) for window in around)), True)
                self.assertIs(is_around(plan, person, around + [(person, person + 1)]), False)
                self.assertIs(is_around(plan, person, around[1:]), not around)
                self.assertIs(is_around(plan, person, around[::-1]), len(around) < 2)

    def test_others(self):
        for thing in ([(0, 5), (1, 5)], [(1, 5), (0, 5), (2, 3)], [(0, 5), (1, 5), (2, 4)], [(0, 5), (1, 5), (1, 3)],
                      [(0, 5), (1, 5), (2, 3), (3, 3)], [(0, 5), (1, 5), (2, 3, 3)], [(0, 5), (1, 5), (2,)],
                      [(0, 5), (1, 5), 2], [(0, 5), (1, 5), (3, 2)], [(0, 5), (1, 5), None], [(0, 5), (1, 5), {2: 3}],
                      [(0, 5), (1, 5), {2, 3}], [(0, 5), (1, 5), "23"], {(0, 5): 1, (1, 5): 1, (2, 3): 1}, [0, 5, 1],
                      []):
            self.assertIs(is_around(self.PLAN, 2, thing), False, thing)

    def test_a_truth_is_no_number(self):
        self.assertIs(is_around([([1], 2)], 0, [(0, 1)]), True)
        for window in ((False, 1), (0, True), (0.0, 1), (0, 1.0), (0, 1 + 0j), ("0", 1), (Odd(), 1), (0, Odd()),
                       b"\0\1"):
            self.assertIs(is_around([([1], 2)], 0, [window]), False, window)

    def test_of_anything(self):
        for thing in no_numbers() + [0, 1, -1, Odd(), deep(40), within_itself(), [Odd()], [[Odd(), Odd()]], range(0)]:
            for plan, empty in (([([1], 2)], False), ([([None], None)], True)):
                told = is_around(plan, 0, thing)
                self.assertIs(told, empty and isinstance(thing, (list, tuple)) and len(thing) == 0)


class Refused(unittest.TestCase):
    def test_no_plan(self):
        for thing in no_plans():
            with self.subTest(repr(thing)[:60]):
                self.assertRaises(NoPlan, window_of, thing, 0)
                self.assertRaises(NoPlan, windows_around, thing, 0)
                self.assertRaises(NoPlan, is_around, thing, 0, [])

    def test_no_person(self):
        for plan, many in (([([1], 5)], 5), ([([1], None)], None), ([([1], 3), ([0, None], 7)], 10), ([([1], 0)], 0)):
            for person in no_people(many):
                self.assertRaises(NoPerson, window_of, plan, person)
                self.assertRaises(NoPerson, windows_around, plan, person)
                self.assertRaises(NoPerson, is_around, plan, person, [])
        self.assertRaises(NoPerson, window_of, [([1], FAR)], FAR)

    def test_several_at_once(self):
        for ask, more in ((window_of, ()), (windows_around, ()), (is_around, (None,))):
            self.assertRaises(NoPlan, ask, [([1], -1)], -1, *more)
            self.assertRaises(NoPlan, ask, None, True, *more)
            self.assertRaises(NoPerson, ask, [([1], 1)], True, *more)


if __name__ == "__main__":
    unittest.main()
