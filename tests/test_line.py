"""Points 18 and 19: lines at work, deed by deed, with undos, and told anew."""

import random
import unittest

from comersline.errors import NoHistory, NoPatience, NoPerson, Nobody, Nothing
from comersline.lasts import went_past
from comersline.line import Line, line_of
from comersline.plans import left_at, queue_at
from tests.onebyone import crowd_after, patiences_of, small_plans
from tests.wrongs import no_histories, no_numbers, no_patiences, no_people

FAR = 10 ** 30


def state_of(line, many):
    """All that a line tells of itself and of so many that came."""
    return line.queue(), line.left(), [line.went_past(person) for person in range(many)], line.history(), len(line)


def some_deeds(chance, many):
    """So many deeds that can be done."""
    deeds, standing = [], 0
    serving = chance.choice((0.1, 0.3, 0.6))
    some = chance.choice(((0, 1, 2), (0, 0, 3, None), (1, 5, 20, None), (None, FAR), (0, 1, 2, 3, 5, 8, 13, 300)))
    while len(deeds) < many:
        if standing > 0 and chance.random() < serving:
            deeds.append(("serve",))
            standing -= 1
        else:
            deeds.append(("come", chance.choice(some)))
            standing += 1
    return deeds


def do_deed(line, deed):
    return line.serve() if deed == ("serve",) else line.come(deed[1])


class LineCase(unittest.TestCase):
    def check(self, line, deeds):
        """A line that did these deeds is as one by one."""
        crowd = crowd_after(deeds)
        many = len(crowd.past)
        past = [len(crowd.past[person]) for person in range(many)]
        self.assertEqual(state_of(line, many), (crowd.people, crowd.lefts(), past, list(deeds), len(crowd.people)))
        self.assertRaises(NoPerson, line.went_past, many)


class OneByOne(LineCase):
    def test_deed_by_deed_with_undos(self):
        chance = random.Random(18)
        for _ in range(120):
            line, done = Line(), []
            for deed in some_deeds(chance, 60):
                if deed == ("serve",) and len(line) == 0:
                    self.assertRaises(Nobody, line.serve)
                else:
                    number = len([each for each in done if each[0] == "come"])
                    front = line.queue()[:1]
                    told = do_deed(line, deed)
                    self.assertEqual(told, number if deed[0] == "come" else front[0])
                    done.append(deed)
                while done and chance.random() < 0.25:
                    self.assertIsNone(line.undo())
                    done.pop()
                    self.check(line, done)
                self.check(line, done)

    def test_undone_all_the_way(self):
        chance = random.Random(19)
        for _ in range(40):
            deeds = some_deeds(chance, 50)
            line = Line()
            for deed in deeds:
                do_deed(line, deed)
            for many in range(len(deeds), 0, -1):
                self.check(line, deeds[:many])
                line.undo()
            self.check(line, [])
            self.assertRaises(Nothing, line.undo)
            self.assertEqual(line.come(3), 0)
            self.check(line, [("come", 3)])

    def test_three_hundred_deeds(self):
        chance = random.Random(20)
        for _ in range(6):
            deeds = some_deeds(chance, 300)
            line = line_of(deeds)
            self.check(line, deeds)
            for _ in range(140):
                line.undo()
            self.check(line, deeds[:160])
            for deed in deeds[160:]:
                do_deed(line, deed)
            self.check(line, deeds)

    def test_who_come_alone_are_the_queue_of_a_plan(self):
        for plan in list(small_plans())[::4]:
            patiences = patiences_of(plan, 30)
            line = Line()
            for person, patience in enumerate(patiences):
                self.assertEqual(line.come(patience), person)
                self.assertEqual((line.queue(), line.left()), (queue_at(plan, person + 1), left_at(plan, person + 1)))
            for person in range(len(patiences)):
                self.assertEqual(line.went_past(person), went_past(plan, person, len(patiences)))


class ByHand(LineCase):
    def test_a_new_line(self):
        line = Line()
        self.assertEqual(state_of(line, 0), ([], [], [], [], 0))
        self.assertRaises(Nobody, line.serve)
        self.assertRaises(Nothing, line.undo)
        self.assertRaises(NoPerson, line.went_past, 0)
        self.assertEqual(state_of(line, 0), ([], [], [], [], 0))

    def test_who_has_gone_keeps_nobody(self):
        line = Line()
        self.assertEqual([line.come(0), line.come(2), line.serve(), line.come(1)], [0, 1, 0, 2])
        self.assertEqual(state_of(line, 3), ([2, 1], [1, 1], [0, 1, 0],
                                             [("come", 0), ("come", 2), ("serve",), ("come", 1)], 2))
        self.assertEqual([line.come(0), line.serve(), line.serve(), line.serve()], [3, 3, 2, 1])
        self.assertRaises(Nobody, line.serve)
        self.assertEqual(line.come(None), 4)
        self.assertEqual([line.went_past(person) for person in range(5)], [0, 2, 1, 0, 0])

    def test_who_has_gone_lets_nobody_past(self):
        line = Line()
        line.come(5)
        self.assertEqual(line.serve(), 0)
        line.come(5)
        line.come(5)
        self.assertEqual([line.went_past(person) for person in range(3)], [0, 1, 0])

    def test_an_undone_serving(self):
        line = Line()
        for patience in (3, 0, None):
            line.come(patience)
        before = state_of(line, 3)
        self.assertEqual(line.queue(), [1, 2, 0])
        line.serve()
        line.undo()
        self.assertEqual(state_of(line, 3), before)
        self.assertEqual(line.serve(), 1)

    def test_an_undone_coming(self):
        line = Line()
        for patience in (3, None, 2):
            line.come(patience)
        self.assertEqual(line.left(), [2, None, 1])
        line.undo()
        self.assertEqual(state_of(line, 2), ([1, 0], [None, 2], [1, 0], [("come", 3), ("come", None)], 2))
        self.assertRaises(NoPerson, line.went_past, 2)
        self.assertEqual(line.come(0), 2)

    def test_who_goes_past_one_that_was_served_later_undone(self):
        line = Line()
        line.come(2)
        line.come(1)
        self.assertEqual(line.serve(), 1)
        self.assertEqual(line.come(0), 2)
        self.assertEqual((line.queue(), line.left()), ([2, 0], [0, 0]))
        line.undo()
        line.undo()
        self.assertEqual(state_of(line, 2), ([1, 0], [1, 1], [1, 0], [("come", 2), ("come", 1)], 2))

    def test_the_greatest_patience(self):
        line = Line()
        line.come(FAR)
        line.come(None)
        self.assertEqual(line.left(), [None, FAR - 1])
        self.assertEqual(line.come(0), 2)
        self.assertEqual(line.left(), [0, None, FAR - 2])
        line.undo()
        line.undo()
        self.assertEqual(line.left(), [FAR])
        self.assertEqual(line.history(), [("come", FAR)])

    def test_told_numbers_are_no_truths(self):
        line = Line()
        for told in (line.come(1), line.come(1), *line.queue(), *line.left(), line.serve(), line.went_past(0), len(line)):
            self.assertIs(type(told), int)


class OneSOwn(LineCase):
    def test_told_lists_are_new(self):
        line = line_of([("come", 2), ("come", None), ("come", 0), ("serve",)])
        before = state_of(line, 3)
        for ask in (line.queue, line.left, line.history):
            told, again = ask(), ask()
            self.assertIs(type(told), list)
            self.assertIsNot(told, again)
            told.clear()
            again.append(again[0])
            self.assertEqual(state_of(line, 3), before)
        self.assertEqual([type(deed) for deed in line.history()], [tuple] * 4)
        told = line.queue(), line.left(), line.history()
        line.come(5)
        line.serve()
        self.assertEqual(told, (before[0], before[1], before[3]))

    def test_two_lines_know_nothing_of_one_another(self):
        one, other = Line(), Line()
        one.come(4)
        self.assertEqual(state_of(other, 0), ([], [], [], [], 0))
        self.assertRaises(Nothing, other.undo)
        copy = line_of(one.history())
        copy.come(1)
        copy.serve()
        self.assertEqual(state_of(one, 1), ([0], [4], [0], [("come", 4)], 1))

    def test_a_history_handed_in_stays_as_it_is(self):
        history = [["come", 2], ("come", None), ["serve"]]
        line = line_of(history)
        self.assertEqual(history, [["come", 2], ("come", None), ["serve"]])
        history[0][1] = 0
        history.clear()
        self.assertEqual(line.history(), [("come", 2), ("come", None), ("serve",)])
        line.undo()
        line.come(7)
        self.assertEqual(history, [])


class ToldAnew(LineCase):
    def test_by_its_history(self):
        chance = random.Random(21)
        for _ in range(60):
            deeds = some_deeds(chance, chance.randint(0, 80))
            line = line_of(deeds)
            self.check(line, deeds)
            again = line_of(line.history())
            self.check(again, deeds)
            for many in range(len(deeds) - 1, -1, -1):
                again.undo()
                self.check(again, deeds[:many])
            self.assertRaises(Nothing, again.undo)
            self.check(line, deeds)

    def test_lists_and_tuples_are_one_here(self):
        told = [("come", 2), ("come", None), ("serve",), ("come", 0)]
        for history in (told, tuple(told), [list(deed) for deed in told], tuple(list(deed) for deed in told),
                        [["come", 2], ("come", None), ["serve"], ("come", 0)]):
            line = line_of(history)
            self.assertIsInstance(line, Line)
            self.check(line, told)

    def test_of_no_deeds(self):
        for history in ([], ()):
            self.check(line_of(history), [])
            self.assertRaises(Nothing, line_of(history).undo)

    def test_of_more_deeds(self):
        line = line_of([("come", 1), ("serve",)] * 400)
        self.assertEqual((len(line), len(line.history()), line.come(0)), (0, 800, 400))


class Refused(LineCase):
    def test_no_patience(self):
        line = line_of([("come", 2), ("come", 0)])
        before = state_of(line, 2)
        for thing in no_patiences():
            with self.subTest(repr(thing)[:60]):
                self.assertRaises(NoPatience, line.come, thing)
        self.assertEqual(state_of(line, 2), before)

    def test_no_person(self):
        line = line_of([("come", 2), ("come", 0), ("serve",), ("come", 5), ("serve",)])
        line.undo()
        line.undo()
        for thing in no_people(2):
            self.assertRaises(NoPerson, line.went_past, thing)
        self.assertEqual([line.went_past(0), line.went_past(1)], [1, 0])
        self.assertRaises(NoPerson, Line().went_past, 0)

    def test_nobody_and_nothing_change_nothing(self):
        line = line_of([("come", 2), ("serve",)])
        self.assertRaises(Nobody, line.serve)
        self.assertEqual(state_of(line, 1), ([], [], [0], [("come", 2), ("serve",)], 0))
        line.undo()
        line.undo()
        self.assertRaises(Nothing, line.undo)
        self.assertRaises(Nothing, line.undo)
        self.assertEqual(state_of(line, 0), ([], [], [], [], 0))

    def test_no_history(self):
        for thing in no_histories():
            with self.subTest(repr(thing)[:60]):
                self.assertRaises(NoHistory, line_of, thing)

    def test_a_line_is_no_history(self):
        self.assertRaises(NoHistory, line_of, Line())
        self.assertRaises(NoHistory, line_of, line_of([("come", 1)]))
        for thing in no_numbers():
            self.assertRaises(NoHistory, line_of, [("come", 1), thing])


if __name__ == "__main__":
    unittest.main()
