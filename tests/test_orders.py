"""Points 16 and 17: which orders can stand, by which patiences, and who shows that one can't."""

import itertools
import random
import unittest

from comersline.errors import NoNumber, NoOrder
from comersline.line import Line
from comersline.orders import barring, bars, is_order, least_patiences, rows_counted
from comersline.plans import queue_at
from tests.onebyone import crowd_of
from tests.wrongs import Odd, no_numbers, no_orders

MOST = 10 ** 18


def orders_of(many):
    return [list(order) for order in itertools.permutations(range(many))]


def rows_by_order(many, most):
    """All lists of patiences up to a most, by the orders they make."""
    rows = {}
    for patiences in itertools.product(range(most + 1), repeat=many):
        rows.setdefault(tuple(crowd_of(patiences).people), []).append(patiences)
    return rows


def threes_that_bar(order):
    """All that stand youngest, oldest, between."""
    threes = []
    for one, two, three in itertools.combinations(order, 3):
        if two < three < one:
            threes.append((one, two, three))
    return threes


def made_orders(many):
    """Orders of sixty and somewhat fewer that can stand."""
    chance = random.Random(17)
    for number in range(many):
        length = 60 - number % 4
        reach = chance.choice((1, 3, 10, 60))
        yield crowd_of([chance.randint(0, reach) for _ in range(length)]).people


class IsOrder(unittest.TestCase):
    def test_orders(self):
        for many in range(6):
            for order in orders_of(many):
                self.assertIs(is_order(order), True)
                self.assertIs(is_order(tuple(order)), True)
        for many in (58, 59, 60):
            self.assertIs(is_order(list(range(many))), True)
            self.assertIs(is_order(tuple(range(many - 1, -1, -1))), True)

    def test_none(self):
        for thing in no_orders():
            with self.subTest(repr(thing)[:60]):
                self.assertIs(is_order(thing), False)

    def test_each_once(self):
        for many in range(1, 5):
            for people in itertools.product(range(-1, many + 1), repeat=many):
                self.assertIs(is_order(list(people)), sorted(people) == list(range(many)))

    def test_a_truth_is_no_number(self):
        self.assertIs(is_order([0, 1]), True)
        for order in ([False, True], [0, True], [False, 1], [True, 0], [False]):
            self.assertIs(is_order(order), False)


class ByAllPatiences(unittest.TestCase):
    """Orders of a few, held against all lists of patiences and all threes of them."""

    def test_least_patiences(self):
        for many in range(7):
            rows = rows_by_order(many, max(0, many - 1))
            for order in orders_of(many):
                made = rows.get(tuple(order))
                told = least_patiences(order)
                if made is None:
                    self.assertIsNone(told)
                else:
                    self.assertEqual(told, [min(row[person] for row in made) for person in range(many)])
                    self.assertIn(tuple(told), made)
                self.assertEqual(least_patiences(tuple(order)), told)

    def test_rows_counted(self):
        for many in range(6):
            for most in range(6):
                rows = rows_by_order(many, most)
                for order in orders_of(many):
                    self.assertEqual(rows_counted(order, most), len(rows.get(tuple(order), ())), (order, most))
                    self.assertEqual(rows_counted(tuple(order), most), rows_counted(order, most))

    def test_rows_counted_of_six(self):
        rows = rows_by_order(6, 5)
        for order in orders_of(6):
            self.assertEqual(rows_counted(order, 5), len(rows.get(tuple(order), ())))

    def test_barring(self):
        for many in range(8):
            for order in orders_of(many):
                threes = threes_that_bar(order)
                self.assertEqual(barring(order), min(threes, default=None))
                self.assertEqual(least_patiences(order) is None, threes != [])
                self.assertEqual(rows_counted(order, many) == 0, threes != [])

    def test_bars(self):
        for many in range(6):
            for order in orders_of(many):
                threes = threes_that_bar(order)
                for three in itertools.product(range(-1, many + 1), repeat=3):
                    self.assertIs(bars(order, three), three in threes)
                    self.assertIs(bars(tuple(order), list(three)), three in threes)


class ByHand(unittest.TestCase):
    def test_none_at_all(self):
        self.assertEqual(least_patiences([]), [])
        self.assertEqual(least_patiences(()), [])
        self.assertIsNone(barring([]))
        for most in (0, 1, MOST):
            self.assertEqual(rows_counted([], most), 1)

    def test_one(self):
        self.assertEqual(least_patiences([0]), [0])
        self.assertIsNone(barring([0]))
        for most in (0, 1, 7, MOST):
            self.assertEqual(rows_counted([0], most), most + 1)

    def test_two(self):
        self.assertEqual(least_patiences([0, 1]), [0, 0])
        self.assertEqual(least_patiences([1, 0]), [1, 0])
        self.assertEqual(rows_counted([0, 1], 0), 1)
        self.assertEqual(rows_counted([1, 0], 0), 0)
        self.assertEqual(rows_counted([0, 1], MOST), MOST + 1)
        self.assertEqual(rows_counted([1, 0], MOST), MOST * (MOST + 1))

    def test_three(self):
        self.assertEqual(barring([2, 0, 1]), (2, 0, 1))
        self.assertIs(type(barring((2, 0, 1))), tuple)
        self.assertIsNone(least_patiences([2, 0, 1]))
        self.assertEqual(rows_counted([2, 0, 1], MOST), 0)
        self.assertEqual(least_patiences([2, 1, 0]), [2, 1, 0])
        self.assertEqual(least_patiences([1, 2, 0]), [2, 0, 0])
        self.assertEqual(least_patiences([1, 0, 2]), [1, 0, 0])
        self.assertEqual(least_patiences([0, 2, 1]), [0, 1, 0])

    def test_the_least_three_are_not_the_first_from_the_front(self):
        self.assertEqual(barring([5, 4, 2, 3, 0, 1]), (2, 0, 1))
        self.assertEqual(barring([5, 3, 4, 0, 1, 2]), (3, 0, 1))
        self.assertEqual(barring([4, 1, 3, 0, 2]), (3, 0, 2))
        self.assertEqual(barring([4, 1, 0, 3, 2]), (4, 0, 2))
        self.assertEqual(barring([4, 1, 2, 3, 0]), (4, 1, 2))

    def test_sixty(self):
        rising, falling = list(range(60)), list(range(59, -1, -1))
        self.assertEqual(least_patiences(rising), [0] * 60)
        self.assertEqual(least_patiences(falling), falling)
        self.assertIsNone(barring(rising))
        self.assertIsNone(barring(falling))
        self.assertEqual(rows_counted(rising, 0), 1)
        self.assertEqual(rows_counted(rising, MOST), MOST + 1)
        self.assertEqual(rows_counted(falling, 58), 0)
        product = 1
        for least in range(60):
            product *= least + 1
        self.assertEqual(rows_counted(falling, 59), product)
        for least in range(60):
            product = product * (MOST - least + 1) // (least + 1)
        self.assertEqual(rows_counted(falling, MOST), product)
        pairs = [person ^ 1 for person in range(60)]
        self.assertEqual(least_patiences(pairs), [1, 0] * 30)
        self.assertEqual(rows_counted(pairs, MOST), (MOST + 1) ** 30 * MOST)
        self.assertEqual(rows_counted(pairs, 1), 2 ** 30)
        self.assertEqual(rows_counted(pairs, 0), 0)
        self.assertEqual(barring([59] + list(range(59))), (59, 0, 1))
        self.assertEqual(rows_counted([59] + list(range(59)), MOST), 0)

    def test_a_most_below_the_least(self):
        self.assertEqual(rows_counted([3, 2, 1, 0], 2), 0)
        self.assertEqual(rows_counted([1, 2, 3, 0], 2), 0)
        self.assertEqual(rows_counted([1, 2, 3, 0], 3), 4)
        self.assertEqual(rows_counted([0, 1, 2, 4, 3], 0), 0)
        self.assertEqual(rows_counted([1, 0, 2], 0), 0)


class AgainstOneAnother(unittest.TestCase):
    def test_each_list_of_patiences_makes_one_order(self):
        for many in range(7):
            for most in (0, 1, 2, 5, 100, 10 ** 9, MOST):
                self.assertEqual(sum(rows_counted(order, most) for order in orders_of(many)), (most + 1) ** many)

    def test_least_patiences_make_the_order(self):
        for order in made_orders(40):
            least = least_patiences(order)
            self.assertEqual(crowd_of(least).people, order)
            self.assertIsNone(barring(order))
            plan = [(least[at:at + 8], len(least[at:at + 8])) for at in range(0, len(least), 8)]
            self.assertEqual(queue_at(plan, len(order)), order)
            line = Line()
            for patience in least:
                line.come(patience)
            self.assertEqual(line.queue(), order)

    def test_no_lesser_ones_do(self):
        for order in made_orders(8):
            least = least_patiences(order)
            for person, patience in enumerate(least):
                if patience > 0:
                    lesser = least[:person] + [patience - 1] + least[person + 1:]
                    self.assertNotEqual(crowd_of(lesser).people, order)

    def test_rows_counted_by_which_patience_may_be_greater(self):
        """Of each that may have one more than the least alone, any more will do, whatever the others have."""
        for order in made_orders(12):
            least = least_patiences(order)
            counted = {0: 1, 60: 1, MOST: 1}
            for person, patience in enumerate(least):
                greater = least[:person] + [patience + 1] + least[person + 1:]
                free = crowd_of(greater).people == order
                for most in counted:
                    counted[most] *= 0 if patience > most else most - patience + 1 if free else 1
            for most, told in counted.items():
                self.assertEqual(rows_counted(order, most), told)

    def test_any_three_that_bar(self):
        chance = random.Random(71)
        for many in (3, 4, 9, 30, 59, 60):
            for _ in range(6):
                order = list(range(many))
                chance.shuffle(order)
                threes = threes_that_bar(order)
                self.assertEqual(barring(order), min(threes, default=None))
                for three in threes[:20] + [tuple(chance.sample(order, 3)) for _ in range(60)]:
                    self.assertIs(bars(order, three), three in threes)
                    self.assertIs(bars(order, list(three)), three in threes)

    def test_told_rows_are_no_truths(self):
        for order in ([0], [1, 0], [1, 2, 0]):
            for told in least_patiences(order) + [rows_counted(order, 1)]:
                self.assertIs(type(told), int)
        self.assertEqual([type(person) for person in barring([2, 0, 1])], [int, int, int])


class Refused(unittest.TestCase):
    def test_no_order(self):
        for thing in no_orders():
            with self.subTest(repr(thing)[:60]):
                self.assertRaises(NoOrder, least_patiences, thing)
                self.assertRaises(NoOrder, barring, thing)
                self.assertRaises(NoOrder, bars, thing, (2, 0, 1))
                self.assertRaises(NoOrder, rows_counted, thing, 1)

    def test_no_number(self):
        for thing in no_numbers() + [-1, -MOST, MOST + 1, 10 ** 40 - 1, Odd()]:
            for order in ([], [0], [2, 0, 1], list(range(60))):
                self.assertRaises(NoNumber, rows_counted, order, thing)

    def test_the_order_goes_first(self):
        for thing in (-1, True, None, MOST + 1):
            self.assertRaises(NoOrder, rows_counted, [0, 0], thing)
            self.assertRaises(NoOrder, bars, [0, True], thing)

    def test_bars_is_told_of_anything(self):
        order = [2, 0, 1, 3]
        things = no_numbers() + [0, 1, [], (), (2,), (2, 0), (2, 0, 1, 3), [2, 0, 1, 1], (2, False, 1), (2, 0, True),
                                 [2, False, True], (2.0, 0, 1), (2, 0.0, 1), (2, 0, 1.0), ("2", "0", "1"), "201",
                                 b"\2\0\1", {2: 0, 0: 1, 1: 2}, {0, 1, 2}, range(2, -1, -1), (2, 0, -3), (2, -4, 1),
                                 (4, 0, 1), (2, 0, None), (Odd(), 0, 1), (2, Odd(), 1), [2, 0, Odd()], ((2, 0, 1),),
                                 ([2], [0], [1]), (2, 1, 0), (0, 1, 2), (1, 0, 2), (3, 0, 1), (2, 0, 0), (2, 2, 2),
                                 (10 ** 40 - 1, 0, 1)]
        for thing in things:
            with self.subTest(repr(thing)[:60]):
                self.assertIs(bars(order, thing), False)
        self.assertIs(bars(order, (2, 0, 1)), True)
        self.assertIs(bars(order, [2, 0, 1]), True)
        self.assertIs(bars([0, 1, 2], (2, 0, 1)), False)
        self.assertIs(bars([], (2, 0, 1)), False)


if __name__ == "__main__":
    unittest.main()
