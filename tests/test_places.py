"""Point 9: who stands where at a moment, and point 4 of it."""

import unittest

from comersline.errors import NoMoment, NoPerson, NoPlace, NoPlan
from comersline.lasts import unsafe_at, went_past, who_ahead
from comersline.places import person_at, place_of
from comersline.plans import how_many, queue_at
from tests.farplans import far_plans, some_below
from tests.onebyone import crowd_of, larger_plans, patiences_of, small_plans
from tests.wrongs import no_moments, no_people, no_plans

FAR = 10 ** 30


class OneByOne(unittest.TestCase):
    def check(self, plan, moment, people):
        self.assertEqual([person_at(plan, moment, place) for place in range(moment)], people, (plan, moment))
        places = [place_of(plan, moment, person) for person in people]
        self.assertEqual(places, list(range(moment)), (plan, moment))

    def test_every_moment(self):
        for number, plan in enumerate(small_plans()):
            patiences = patiences_of(plan, 24)
            for moment in range(len(patiences) + 1):
                if (number + moment) % 4 == 0:
                    self.check(plan, moment, crowd_of(patiences[:moment]).people)

    def test_when_all_have_come(self):
        for plan in small_plans():
            patiences = patiences_of(plan, 50)
            self.check(plan, len(patiences), crowd_of(patiences).people)

    def test_longer_queues(self):
        for number, plan in enumerate(larger_plans(40)):
            patiences = patiences_of(plan, 700 - 13 * number)
            self.check(plan, len(patiences), crowd_of(patiences).people)

    def test_as_the_queue_is_listed(self):
        plan = [([3, 0, None, 40], 300), ([700, 2], 900), ([5, 1, 0], None)]
        for moment in (0, 1, 299, 300, 301, 1200, 2000):
            people = queue_at(plan, moment)
            self.assertEqual([person_at(plan, moment, place) for place in range(moment)], people)


class ByHand(unittest.TestCase):
    def test_patience_none_at_all(self):
        plan = [([0], None)]
        for person in (0, 1, FAR // 3, FAR - 1):
            self.assertEqual(place_of(plan, FAR, person), person)
            self.assertEqual(person_at(plan, FAR, person), person)

    def test_patience_that_never_ends(self):
        for plan in ([([None], None)], [([None], FAR)], [([FAR], FAR)]):
            for person in (0, 1, FAR // 3, FAR - 1):
                self.assertEqual(place_of(plan, FAR, person), FAR - 1 - person)
                self.assertEqual(person_at(plan, FAR, person), FAR - 1 - person)

    def test_pairs(self):
        plan = [([1], None)]
        self.assertEqual([person_at(plan, FAR, place) for place in (0, 1, 2, 3, FAR - 2, FAR - 1)],
                         [1, 0, 3, 2, FAR - 1, FAR - 2])
        self.assertEqual(person_at(plan, FAR - 1, FAR - 2), FAR - 2)
        self.assertEqual(place_of(plan, FAR - 1, FAR - 2), FAR - 2)
        self.assertEqual(place_of(plan, FAR, FAR - 2), FAR - 1)

    def test_a_last_that_just_comes(self):
        """The window of one ends with the last that comes; of one more it never ends."""
        for patience in (FAR - 1, FAR):
            plan = [([patience, 0], FAR)]
            self.assertEqual(place_of(plan, FAR, 0), FAR - 1)
            self.assertEqual(place_of(plan, FAR, 1), 0)
            self.assertEqual(place_of(plan, FAR, 2), FAR - 2)
            self.assertEqual(place_of(plan, FAR, FAR - 1), FAR // 2 - 1)
            self.assertEqual(person_at(plan, FAR, FAR // 2), FAR - 2)

    def test_a_moment_of_none(self):
        self.assertRaises(NoPerson, place_of, [([1], None)], 0, 0)
        self.assertRaises(NoPlace, person_at, [([1], None)], 0, 0)
        self.assertRaises(NoPerson, place_of, [([1], 0)], 0, 0)
        self.assertRaises(NoPlace, person_at, [([1], 0)], 0, 0)

    def test_pieces_of_nobody(self):
        bare = [([2, 0], 5), ([1], None)]
        padded = [([None], 0), ([2, 0], 5), ([9], 0), ([0], 0), ([1], None)]
        for moment in (1, 4, 5, 6, 12, FAR):
            for number in some_below(moment):
                self.assertEqual(place_of(padded, moment, number), place_of(bare, moment, number))
                self.assertEqual(person_at(padded, moment, number), person_at(bare, moment, number))


class Far(unittest.TestCase):
    """Answers at ten to the thirtieth, held against one another."""

    def cases(self):
        for plan in far_plans():
            many = how_many(plan)
            for moment in some_below(FAR if many is None else many):
                yield plan, moment + 1

    def test_there_and_back(self):
        for plan, moment in self.cases():
            for number in some_below(moment):
                self.assertEqual(person_at(plan, moment, place_of(plan, moment, number)), number)
                self.assertEqual(place_of(plan, moment, person_at(plan, moment, number)), number)

    def test_as_many_stand_ahead(self):
        """Ahead of each stand those that were safe when it came, and those that went past it."""
        for plan, moment in self.cases():
            for person in some_below(moment):
                ahead = person - unsafe_at(plan, person) + went_past(plan, person, moment)
                self.assertEqual(place_of(plan, moment, person), ahead, (plan, moment, person))

    def test_who_stands_ahead(self):
        for plan, moment in self.cases():
            people = some_below(moment)
            for one, other in zip(people, people[1:]):
                ahead = min(one, other, key=lambda person: place_of(plan, moment, person))
                self.assertEqual(who_ahead(plan, one, other), ahead)

    def test_the_safe_stay_and_the_unsafe_stand_behind_the_newest_in_front(self):
        for plan, moment in self.cases():
            unsafe = unsafe_at(plan, moment)
            behind = [person_at(plan, moment, place) for place in range(max(moment - 30, moment - unsafe), moment)]
            self.assertEqual(behind, sorted(behind, reverse=True))
            many = how_many(plan)
            later = FAR if many is None else many
            for place in some_below(moment - unsafe):
                self.assertEqual(person_at(plan, later, place), person_at(plan, moment, place))


class Refused(unittest.TestCase):
    def test_no_plan(self):
        for thing in no_plans():
            with self.subTest(repr(thing)[:60]):
                self.assertRaises(NoPlan, place_of, thing, 1, 0)
                self.assertRaises(NoPlan, person_at, thing, 1, 0)

    def test_no_moment(self):
        for plan, many in (([([1], 5)], 5), ([([1], None)], None), ([([1], FAR)], FAR), ([([1], 0)], 0)):
            for moment in no_moments(many):
                self.assertRaises(NoMoment, place_of, plan, moment, 0)
                self.assertRaises(NoMoment, person_at, plan, moment, 0)

    def test_none_that_stands_there_and_no_place(self):
        for plan in ([([1], 5)], [([1], None)], [([1], 2), ([0, None], FAR - 2)]):
            for moment in (0, 1, 4, 5):
                for thing in no_people(moment):
                    self.assertRaises(NoPerson, place_of, plan, moment, thing)
                    self.assertRaises(NoPlace, person_at, plan, moment, thing)
        for number in (FAR, FAR + 1, 10 ** 40 - 1, True, False, None):
            self.assertRaises(NoPerson, place_of, [([1], None)], FAR, number)
            self.assertRaises(NoPlace, person_at, [([1], None)], FAR, number)

    def test_several_at_once(self):
        for ask in (place_of, person_at):
            self.assertRaises(NoPlan, ask, [([1], -1)], -1, -1)
            self.assertRaises(NoPlan, ask, [], True, True)
            self.assertRaises(NoMoment, ask, [([1], 3)], 4, 4)
            self.assertRaises(NoMoment, ask, [([1], None)], FAR + 1, -1)
            self.assertRaises(NoMoment, ask, [([1], 3)], True, False)


if __name__ == "__main__":
    unittest.main()
