"""Point 21: the desk, told rows; and point 4 by it, at ten to the thirtieth."""

import random
import unittest

from comersline.desk import Desk
from comersline.errors import (LineError, NoForm, NoMoment, NoneYet, NoOther, NoPerson, NoPlace, NoPlan, NoText)
from comersline.lasts import last_of, unsafe_at, went_past, who_ahead
from comersline.least import least_plan
from comersline.places import person_at, place_of
from comersline.plans import how_many, left_at, patience_of, queue_at
from comersline.rounds import passes_by
from comersline.texts import show_plan
from comersline.windows import window_of
from tests.farplans import far_plans, some_below
from tests.onebyone import brought_by, crowd_of, patiences_of, small_plans
from tests.wrongs import no_texts

FAR = 10 ** 30
ASKING = ("place 0", "at 0", "last 0", "past 0", "window 0", "ahead 0 1", "unsafe", "passes", "left 0", "front 100", "least")


def desk_of(plan, moment):
    desk = Desk()
    desk.say("plan " + show_plan(plan))
    desk.say(f"on {moment}")
    return desk


def told_by(desk, row):
    """What a row tells, or the class of its refusal."""
    try:
        return desk.say(row)
    except LineError as refusal:
        return type(refusal)


def all_told(desk):
    return [told_by(desk, row) for row in ASKING]


def or_word(number, word):
    return word if number is None else str(number)


class DeskCase(unittest.TestCase):
    def check(self, desk, rows):
        for row, told in rows:
            if isinstance(told, str):
                self.assertEqual(desk.say(row), told, row[:60])
            else:
                with self.assertRaises(LineError) as caught:
                    desk.say(row)
                self.assertIs(type(caught.exception), told, row)


class ByHand(DeskCase):
    def test_a_new_desk(self):
        self.check(Desk(), [("least", "0 x 0"), ("unsafe", "0"), ("passes", "0"), ("front 5", "none"), ("on 0", "0"),
                            ("on 1", NoMoment), ("place 0", NoPerson), ("at 0", NoPlace), ("last 0", NoPerson),
                            ("past 0", NoPerson), ("window 0", NoPerson), ("ahead 0 1", NoPerson), ("left 0", NoPerson),
                            ("undo", "ok"), ("undo", NoneYet)])

    def test_rows(self):
        self.check(Desk(), [
            ("plan 3 0 never x 25, 1 x ever", "ok"), ("front 9", "none"), ("on 5", "5"), ("front 9", "1 3 2 0 4"),
            ("front 3", "1 3 2"), ("front 0", "none"), ("place 3", "1"), ("at 3", "0"), ("left 3", "3"), ("left 0", "0"),
            ("left 2", "never"), ("last 0", "3"), ("last 5", "never"), ("past 0", "3"), ("past 4", "0"),
            ("window 0", "0 3"), ("window 1", "1 1"), ("window 2", "none"), ("ahead 0 3", "3"), ("ahead 4 0", "0"),
            ("unsafe", "0"), ("passes", "4"), ("least", "3 0 never x 25, 1 x ever"), ("on 1", "6"), ("on 0", "6"),
            ("past 6", NoMoment), ("place 6", NoPerson), ("at 6", NoPlace), ("left 6", NoPerson), ("last 6", "9"),
            ("window 6", "6 9"), ("ahead 6 7", "7"), ("ahead 6 6", NoOther)])

    def test_a_plan_sets_the_moment_to_0(self):
        self.check(Desk(), [("plan 0 x 9", "ok"), ("on 4", "4"), ("plan 0 x 9", "ok"), ("place 0", NoPerson), ("on 2", "2"),
                            ("front 9", "0 1")])

    def test_on_up_to_all_and_beyond(self):
        for many in (1, 7, FAR - 1, FAR):
            self.check(desk_of([([1], many)], 0), [
                (f"on {many + 1}", NoMoment), (f"on {many}", str(many)), ("on 1", NoMoment), ("on 0", str(many)),
                (f"on {10 ** 40}", NoMoment), ("on " + "9" * 500, NoMoment), ("unsafe", str(many & 1))])
        for text in ("1 x ever", f"1 x {FAR}", f"1 x {FAR}, 2 x ever", f"3 x 5, 1 x {FAR - 5}"):
            self.check(Desk(), [(f"plan {text}", "ok"), (f"on {FAR + 1}", NoMoment), (f"on {FAR - 3}", str(FAR - 3)),
                                ("on 4", NoMoment), ("on 3", str(FAR)), ("on 1", NoMoment), ("on 0", str(FAR)),
                                (f"on {FAR}", NoMoment), ("undo", "ok"), ("undo", "ok"), ("on 3", str(FAR))])

    def test_front_tells_a_hundred_at_most(self):
        desk = desk_of([([0], None)], 250)
        hundred = " ".join(map(str, range(100)))
        self.check(desk, [("front 99", hundred[:-3]), ("front 100", hundred), ("front 101", hundred), ("front 250", hundred),
                          ("front 251", hundred), (f"front {10 ** 60}", hundred), ("front 1", "0"), ("front 0", "none")])
        self.check(desk_of([([None], None)], 99), [("front 200", " ".join(map(str, range(98, -1, -1))))])
        self.check(desk_of([([None], None)], FAR), [("front 2", f"{FAR - 1} {FAR - 2}")])

    def test_undo(self):
        self.check(Desk(), [
            ("undo", NoneYet), ("plan 1 x 5", "ok"), ("on 3", "3"), ("front 9", "1 0 2"), ("plan 0 x ever", "ok"),
            ("on 2", "2"), ("on 0", "2"), ("on 4", "6"), ("undo", "ok"), ("front 9", "0 1"), ("undo", "ok"),
            ("front 9", "0 1"), ("undo", "ok"), ("front 9", "none"), ("least", "0 x ever"), ("undo", "ok"),
            ("front 9", "1 0 2"), ("least", "1 x 5"), ("on 2", "5"), ("undo", "ok"), ("undo", "ok"),
            ("front 9", "none"), ("last 0", "1"), ("undo", "ok"), ("last 0", NoPerson), ("least", "0 x 0"),
            ("undo", NoneYet), ("undo", NoneYet), ("on 0", "0"), ("undo", "ok"), ("undo", NoneYet)])

    def test_what_is_refused_is_not_undone(self):
        self.check(Desk(), [
            ("plan 1 x 5", "ok"), ("on 3", "3"), ("on 3", NoMoment), ("plan 1", NoText), ("plan 1 x ever, 1 x 1", NoPlan),
            ("plan", NoForm), ("place 9", NoPerson), ("front 3", "1 0 2"), ("undo", "ok"), ("front 3", "none"), ("on 5", "5"),
            ("undo", "ok"), ("undo", "ok"), ("undo", NoneYet)])

    def test_the_least_plan(self):
        self.check(Desk(), [("plan 5 3 2 x 2", "ok"), ("least", "1 0 0 x 2"), ("on 1", "1"), ("least", "1 0 0 x 2"),
                            ("plan never x 3", "ok"), ("least", "2 x 3"), ("plan never 1 x 0, 3 x 4", "ok"),
                            ("least", "0 0 x 0, 3 x 4"), ("plan never x ever", "ok"), ("least", "never x ever"),
                            (f"plan {FAR} x {FAR}", "ok"), ("least", f"{FAR - 1} x {FAR}")])


class AgainstTheStages(DeskCase):
    def check_at(self, desk, plan, moment, people):
        """What a desk tells of some people is what the stages tell of its plan at its moment."""
        many = how_many(plan)
        self.check(desk, [("unsafe", str(unsafe_at(plan, moment))), ("passes", str(passes_by(plan, moment))),
                          ("least", show_plan(least_plan(plan)))])
        for person in people:
            if many is not None and person >= many:
                told = [("last", NoPerson), ("window", NoPerson), ("past", NoPerson), ("ahead 0", NoPerson)]
            else:
                window = window_of(plan, person)
                told = [("last", or_word(last_of(plan, person), "never")),
                        ("window", "none" if window is None else f"{window[0]} {window[1]}"),
                        ("past", str(went_past(plan, person, moment)) if person < moment else NoMoment),
                        ("ahead 0", NoOther if person == 0 else str(who_ahead(plan, 0, person)))]
            stands = person < moment
            told += [("place", str(place_of(plan, moment, person)) if stands else NoPerson),
                     ("at", str(person_at(plan, moment, person)) if stands else NoPlace)]
            patience = patience_of(plan, person) if stands else None
            left = None if patience is None else patience - went_past(plan, person, moment)
            told.append(("left", or_word(left, "never") if stands else NoPerson))
            self.check(desk, [(f"{row} {person}", answer) for row, answer in told])
        front = [str(person_at(plan, moment, place)) for place in range(min(moment, 100))]
        self.check(desk, [("front 200", " ".join(front) or "none"), ("front 7", " ".join(front[:7]) or "none")])

    def test_small(self):
        for number, plan in enumerate(small_plans()):
            if number % 3 == 0:
                many = min(brought_by(plan) or 0, 30) if brought_by(plan) is not None else 30
                moment = number * 7 % (many + 1)
                self.check_at(desk_of(plan, moment), plan, moment, range(many + 3))

    def test_the_listed_queue(self):
        for number, plan in enumerate(small_plans()):
            patiences = patiences_of(plan, 60)
            moment = number * 13 % (len(patiences) + 1)
            desk = desk_of(plan, moment)
            people, left = queue_at(plan, moment), left_at(plan, moment)
            self.assertEqual((people, left), (crowd_of(patiences[:moment]).people, crowd_of(patiences[:moment]).lefts()))
            rows = [("front 100", " ".join(map(str, people)) or "none")]
            for place, person in enumerate(people):
                rows += [(f"at {place}", str(person)), (f"place {person}", str(place)),
                         (f"left {person}", or_word(left[place], "never"))]
            self.check(desk, rows)

    def test_far(self):
        for plan in far_plans():
            many = how_many(plan)
            for moment in {(FAR if many is None else many), (many or FAR) // 7}:
                people = some_below(FAR if many is None else many) + [FAR, 10 ** 33]
                self.check_at(desk_of(plan, moment), plan, moment, people)

    def test_a_moment_at_once_and_in_many_rows(self):
        chance = random.Random(22)
        plans = list(far_plans()) + list(small_plans())[::20]
        for plan in plans:
            desk, moment = desk_of(plan, 0), 0
            most = FAR if how_many(plan) is None else how_many(plan)
            for _ in range(12):
                many = chance.choice((0, 1, 2, 10, most // 5, most // 20))
                if moment + many > most:
                    self.assertIs(told_by(desk, f"on {many}"), NoMoment)
                else:
                    moment += many
                    self.assertEqual(desk.say(f"on {many}"), str(moment))
            self.assertEqual(all_told(desk), all_told(desk_of(plan, moment)))

    def test_rows_and_undos_against_rows_anew(self):
        chance = random.Random(23)
        texts = ["1 x 5", "3 0 never x 25, 1 x ever", "0 x 0", f"never 2 x {FAR}", "2 0 x 9, 5 x 3", "1 x", "1 x ever, 1 x 1"]
        for _ in range(60):
            desk, done = Desk(), []
            for _ in range(40):
                row = chance.choice(["undo"] * 3 + [f"on {chance.choice((0, 1, 2, 9, FAR // 3))}"] * 4
                                    + ["plan " + chance.choice(texts)] + list(ASKING))
                told = told_by(desk, row)
                if row == "undo":
                    self.assertEqual(told, "ok" if done else NoneYet)
                    done = done[:-1]
                elif isinstance(told, str) and row.split(" ")[0] in ("plan", "on"):
                    done.append(row)
                anew = Desk()
                for each in done:
                    anew.say(each)
                self.assertEqual(all_told(desk), all_told(anew))

    def test_asking_changes_nothing(self):
        desk = desk_of([([3, 0, None], 25), ([1], None)], 17)
        first = all_told(desk)
        self.assertEqual(all_told(desk), first)
        self.check(desk, [("undo", "ok"), ("undo", "ok"), ("undo", NoneYet)])

    def test_two_desks_know_nothing_of_one_another(self):
        one, other = desk_of([([1], 9)], 4), Desk()
        self.check(other, [("front 9", "none"), ("undo", NoneYet), ("least", "0 x 0")])
        other.say("plan 0 x 3")
        self.check(one, [("front 9", "1 0 3 2"), ("least", "1 x 9")])


class LongNumbers(DeskCase):
    def test_of_however_many_figures(self):
        for length in (31, 41, 49, 50, 51, 99, 100, 101, 639, 700, 3900, 4299, 4301, 6000):
            person = "7" * length
            desk = desk_of([([0], 1), ([FAR, 0], None)], 5)
            self.check(Desk(), [(f"last {person}", NoPerson), (f"on {person}", NoMoment), (f"at {person}", NoPlace),
                                (f"front {person}", "none")])
            self.check(desk, [(f"place {person}", NoPerson), (f"at {person}", NoPlace), (f"past {person}", NoMoment),
                              (f"left {person}", NoPerson), (f"on {person}", NoMoment), (f"ahead {person} {person}", NoOther),
                              (f"front {person}", desk.say("front 5")), (f"ahead 0 {person}", "0"),
                              (f"plan {person} x 1", NoPlan), (f"plan 1 x {person}", NoPlan),
                              (f"last 0{person}", NoForm), (f"last -{person}", NoForm), (f"front 0{person}", NoForm)])
            quiet = desk_of([([0], None)], 0)
            self.check(quiet, [(f"last {person}", person), (f"window {person}", f"{person} {person}"),
                               (f"ahead {person} 3", "3"), (f"ahead {person}0 {person}", person)])
            pairs = desk_of([([0], 1), ([1], None)], 0)
            self.check(pairs, [(f"last {person}", person[:-1] + "8"), (f"window {person}", f"{person} {person[:-1]}8"),
                               (f"window {person[:-1]}8", "none"), (f"ahead {person} {person[:-1]}8", person[:-1] + "8")])

    def test_figures_with_noughts_within(self):
        desk = desk_of([([0], None)], 0)
        for length in (48, 49, 50, 51, 52, 100, 150, 4400):
            for person in ("1" + "0" * length, "1" + "0" * (length - 1) + "1", "5" + "0" * (length // 2) + "7" * 60):
                self.check(desk, [(f"last {person}", person)])


class Refused(DeskCase):
    def test_no_form(self):
        rows = ["", " ", "\n", "plan", "plans 1 x 1", "Plan 1 x 1", " plan 1 x 1", "plan\t1 x 1", "plan\n1 x 1", "PLAN 1 x 1",
                "on", "on ", "on  1", " on 1", "on 1 ", "on 1 1", "on one", "on never", "on ever", "On 1", "on1", "on\t1",
                "on 01", "on 00", "on -1", "on -0", "on +1", "on 1.0", "on 1e3", "on 1_0", "on 0x1", "on \u0663", "on \u00b2",
                "place", "place ", "place  0", "place 0 ", "place 0 0", "place 00", "place never", "place -1", "at", "at 01",
                "at 0 0", "last", "last 0 0", "last -1", "past", "past 0 0", "window", "window 0 3", "window none", "ahead",
                "ahead 0", "ahead 0 ", "ahead 0 1 2", "ahead 0  1", "ahead  0 1", "ahead 0 1 ", "ahead 00 1", "ahead 0 01",
                "unsafe ", " unsafe", "unsafe 0", "Unsafe", "passes ", "passes 1", "left", "left 0 0", "left never", "front",
                "front ", "front -1", "front 0 0", "front all", "least ", "least 0", "leasts", "undo ", " undo", "undo 1",
                "Undo", "undo undo", "queue", "queue 3", "help", "?", "0", "1 x 1", "moment", "none", "ok", "~", ", ",
                "place, 0", "place 0,", "unsafe\r", "undo\t", "on 1\r", "place\u00a00"]
        desk = desk_of([([3, 0, None], 25), ([1], None)], 17)
        before = all_told(desk)
        for row in rows:
            self.check(desk, [(row, NoForm)])
            self.check(Desk(), [(row, NoForm)])
        self.assertEqual(all_told(desk), before)
        self.check(desk, [("undo", "ok"), ("undo", "ok"), ("undo", NoneYet)])

    def test_what_is_no_text(self):
        for thing in no_texts() + [b"undo", ["undo"], ("on", 1), ["on", "1"], ("on 1",)]:
            with self.subTest(repr(thing)[:60]):
                self.assertRaises(NoForm, Desk().say, thing)

    def test_with_a_line_feed(self):
        desk = desk_of([([1], 9)], 4)
        for row in ASKING + ("on 1", "undo", "plan 1 x 1", "plan ", "plan 1", "plan 1 x ever, 1 x 1"):
            for with_feed in (row + "\n", "\n" + row, row.replace(" ", "\n", 1), row.replace(" ", " \n", 1) + "\n",
                              row[:4] + "\n" + row[4:]):
                if "\n" in with_feed:
                    self.check(desk, [(with_feed, NoForm)])
        self.check(desk, [("front 9", "1 0 3 2")])

    def test_no_text_tells_its_sign(self):
        desk = desk_of([([1], 9)], 4)
        for text, sign in (("", 0), (" ", 0), ("1", 0), (" 1 x 1", 0), ("1 x 1 ", 0), ("1  x 1", 0), ("1 x 1, ", 1),
                           ("1 x 1, 1 x 1, x", 2), ("1 x ever, 1 x 1, 1", 2), ("plan 1 x 1", 0), ("01 x 1", 0),
                           ("1 x 1,  1 x 1", 1)):
            with self.assertRaises(NoText) as caught:
                desk.say("plan " + text)
            self.assertEqual(caught.exception.sign, sign, text)
        self.check(desk, [("front 9", "1 0 3 2"), ("undo", "ok"), ("undo", "ok"), ("undo", NoneYet)])

    def test_no_plan(self):
        desk = desk_of([([1], 9)], 4)
        for text in ("1 x ever, 1 x 1", ", ".join(["1 x 1"] * 9), " ".join(["1"] * 9) + " x 1", f"{FAR + 1} x 1",
                     f"1 x {FAR + 1}", f"1 x {FAR}, 1 x 1", "1 x " + "9" * 3900, "9" * 5000 + " x 1"):
            self.check(desk, [("plan " + text, NoPlan)])
        self.check(desk, [("front 9", "1 0 3 2")])

    def test_who_is_asked_of(self):
        """Of the plan's people, or of those that stand, or of those that have come."""
        desk = desk_of([([1, 0, None], 9)], 4)
        self.check(desk, [("last 8", "8"), ("last 9", NoPerson), ("window 8", "none"), ("window 9", NoPerson),
                          ("past 3", "0"), ("past 4", NoMoment), ("past 8", NoMoment), ("past 9", NoPerson),
                          ("left 3", "1"), ("left 4", NoPerson), ("left 8", NoPerson), ("left 9", NoPerson),
                          ("place 4", NoPerson), ("place 9", NoPerson), ("at 4", NoPlace), ("at 9", NoPlace),
                          ("ahead 8 0", "0"), ("ahead 8 9", NoPerson), ("ahead 9 8", NoPerson), ("ahead 9 9", NoPerson),
                          ("ahead 8 8", NoOther), ("ahead 0 0", NoOther)])


if __name__ == "__main__":
    unittest.main()
