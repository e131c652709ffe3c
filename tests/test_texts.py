"""Point 20: plans as texts, written and read back."""

import random
import re
import unittest

from comersline.errors import NoPlan, NoText
from comersline.plans import is_plan
from comersline.texts import read_plan, show_plan
from tests.farplans import far_plans
from tests.onebyone import larger_plans, small_plans
from tests.wrongs import no_plans, no_texts

FAR = 10 ** 30
PIECE = re.compile(r"((0|[1-9][0-9]*|never) )+x (0|[1-9][0-9]*|ever)")
WRITTEN = ((
    ("0 x 0", [([0], 0)]),
    ("3 0 never x 25, 1 x ever", [([3, 0, None], 25), ([1], None)]),
    ("never x ever", [([None], None)]),
    ("never x 0, never never x 10", [([None], 0), ([None, None], 10)]),
    ("0 0 0 0 0 0 0 0 x 1", [([0] * 8, 1)]),
    (", ".join(["1 x 2"] * 8), [([1], 2)] * 8),
    (f"{FAR} x {FAR}", [([FAR], FAR)]),
    (f"{FAR} 10 x {FAR}, 100 x ever", [([FAR, 10], FAR), ([100], None)]),
    ("7 x 1, 8 x 0", [([7], 1), ([8], 0)]),
))
# Texts of which the first piece without form stands at a place.
FORMLESS = (
    ("", 0), (" ", 0), (",", 0), (", ", 0), (", , ", 0), ("x", 0), ("x 1", 0), (" x 1", 0), ("1", 0), ("1 x", 0),
    ("1 x ", 0), ("1 1", 0), ("1 x 1 ", 0), (" 1 x 1", 0), ("1  x 1", 0), ("1 x  1", 0), ("1  1 x 1", 0), ("1x1", 0),
    ("1 x1", 0), ("1x 1", 0), ("1 X 1", 0), ("1 * 1", 0), ("1 x x 1", 0), ("1 x 1 x 1", 0), ("1 x 1 1", 0), ("x x 1", 0),
    ("01 x 1", 0), ("00 x 1", 0), ("1 x 01", 0), ("1 x 00", 0), ("0 1 02 x 1", 0), ("+1 x 1", 0), ("-1 x 1", 0),
    ("1 x +1", 0), ("1 x -1", 0), ("-0 x 1", 0), ("1.0 x 1", 0), ("1 x 1.0", 0), ("1e3 x 1", 0), ("1_0 x 1", 0),
    ("0x1 x 1", 0), ("a x 1", 0), ("1 x a", 0), ("ever x 1", 0), ("1 x never", 0), ("Never x 1", 0), ("1 x Ever", 0),
    ("NEVER x EVER", 0), ("None x 1", 0), ("1 x None", 0), ("never1 x 1", 0), ("1 x 1,", 0), ("1 x 1 ,", 0),
    ("1 x 1,1 x 1", 0), ("1 x 1 , 1 x 1", 0), ("1 x 1;1 x 1", 0), ("1, 1 x 1", 0), ("1,1 x 1", 0), (", 1 x 1", 0),
    ("1 x 1\n", 0), ("\n1 x 1", 0), ("1\nx 1", 0), ("1 x\n1", 0), ("1 x 1,\n1 x 1", 0), ("\n", 0), ("1 x 1\n, 1 x 1", 0),
    ("[([1], 1)]", 0), ("\"1 x 1\"", 0), ("1 x 1.", 0), ("~", 0), ("1 x 1!", 0), ("(1 x 1)", 0),
    ("1 x 1, ", 1), ("1 x 1, , 1 x 1", 1), ("1 x 1,  1 x 1", 1), ("1 x 1, 1 x", 1), ("1 x 1, x 1", 1), ("1 x 1, 1", 1),
    ("1 x 1, 1 x 1\n", 1), ("1 x 1, \n1 x 1", 1), ("1 x 1, 1 x 1, 1", 2), ("1 x 1, 1 x 1, ", 2), ("1 x 1, 01 x 1, a", 1),
    ("1 x 1, 1 x 1,1 x 1, 1 x 1", 1), ("never x ever, ever x never", 1),
)
# Texts of pieces that all have a form, and are no plan all the same.
WORTH_NOTHING = (
    ", ".join(["1 x 1"] * 9), ", ".join(["1 x 0"] * 9), " ".join(["1"] * 9) + " x 1", "1 x ever, 1 x 1", "1 x ever, 1 x 0",
    "1 x ever, 1 x ever", "1 x 1, 1 x ever, 1 x 1", f"{FAR + 1} x 1", f"1 x {FAR + 1}", f"1 x {FAR}, 1 x 1",
    f"1 x {FAR}, 1 x 1, 1 x ever", "9" * 40 + " x 1", "9" * 400 + " x 1", "1 x " + "9" * 400, "1 x 1" + "0" * 3900,
    "1" + "0" * 3900 + " x 1", "1 x 1" + "0" * 9000, "1" + "0" * 9000 + " x 1", f"never {FAR + 1} x 1",
    ", ".join(["1 x 1"] * 400), " ".join(["1"] * 1000) + " x 1", ", ".join(["never x ever"] * 200),
)


def sign_of(text):
    """The number of the first piece of a text without form, or None."""
    for number, piece in enumerate(text.split(", ")):
        if not PIECE.fullmatch(piece):
            return number
    return None


class Texts(unittest.TestCase):
    def check_no_text(self, text, sign):
        with self.assertRaises(NoText) as caught:
            read_plan(text)
        self.assertEqual(caught.exception.sign, sign, repr(text))
        self.assertIs(type(caught.exception.sign), type(sign))
        self.assertIs(type(caught.exception), NoText)

    def test_written(self):
        for text, plan in WRITTEN:
            self.assertEqual(show_plan(plan), text)
            self.assertEqual(show_plan(tuple((tuple(turns), many) for turns, many in plan)), text)
            self.assertEqual(show_plan([[turns, many] for turns, many in plan]), text)

    def test_read(self):
        for text, plan in WRITTEN:
            self.assertEqual(read_plan(text), plan)

    def test_what_is_read_is_lists_and_tuples_as_a_plan_is_told(self):
        for text, _ in WRITTEN:
            told = read_plan(text)
            self.assertIs(type(told), list)
            self.assertTrue(is_plan(told))
            for piece in told:
                self.assertEqual((type(piece), type(piece[0])), (tuple, list))
                for number in piece[0] + [piece[1]]:
                    self.assertIn(type(number), (int, type(None)))
            told[0][0].append(9)
            told.clear()
            self.assertEqual(read_plan(text), dict(WRITTEN)[text])

    def test_read_back_it_is_the_plan(self):
        for plan in list(small_plans()) + list(larger_plans(60)) + list(far_plans()):
            text = show_plan(plan)
            self.assertEqual(read_plan(text), plan)
            self.assertEqual(show_plan(read_plan(text)), text)

    def test_a_plan_handed_in_stays_as_it_is(self):
        plan = [[[3, None], 4], ([1], None)]
        show_plan(plan)
        self.assertEqual(plan, [[[3, None], 4], ([1], None)])

    def test_numbers_of_every_length(self):
        for length in range(1, 31):
            for number in (10 ** length, 10 ** length - 1, int("1234567890" * 3) // 10 ** (30 - length)):
                self.assertEqual(show_plan([([number], number)]), f"{number} x {number}")
                self.assertEqual(read_plan(f"{number} 0 x {number}"), [([number, 0], number)])

    def test_without_form(self):
        for text, sign in FORMLESS:
            with self.subTest(text):
                self.check_no_text(text, sign)

    def test_what_is_no_text(self):
        for thing in no_texts():
            with self.subTest(repr(thing)[:60]):
                self.check_no_text(thing, None)

    def test_no_other_figures_nor_blanks(self):
        for word in ("\u0663", "\u00b2", "\uff11", "\u00bd", "1\u0663", "\u2160"):
            self.check_no_text(f"1 x 1, {word} x 1", 1)
            self.check_no_text(f"1 x 1, 1 x {word}", 1)
        for blank in "\t\r\x0b\x0c\u00a0\u2003":
            self.check_no_text(f"1{blank}x 1", 0)
            self.check_no_text(f"1 x 1,{blank}1 x 1", 0)
            self.check_no_text(f"1 x 1{blank}", 0)

    def test_no_plan(self):
        for text in WORTH_NOTHING:
            with self.subTest(text[:60]):
                self.assertRaises(NoPlan, read_plan, text)

    def test_the_form_goes_before_the_worth(self):
        for text in WORTH_NOTHING:
            many = len(text.split(", "))
            self.check_no_text(text + ", 1 x", many)
            self.check_no_text(text + ", ", many)
            self.check_no_text("1 x 01, " + text, 0)
            self.check_no_text(text + " ", many - 1)
        self.check_no_text(", ".join(["1 x ever"] * 300) + ", 1", 300)

    def test_by_another_reading(self):
        """Texts with a few signs changed, held against a pattern of the form."""
        chance = random.Random(20)
        met = set()
        texts = [text for text, _ in WRITTEN] + [text for text, _ in FORMLESS]
        for _ in range(20000):
            text = chance.choice(texts)
            for _ in range(chance.randint(1, 3)):
                at = chance.randint(0, len(text))
                text = text[:at] + chance.choice(("", "0", "7", " ", ", ", ",", "x", "never", "ever", " x 1", "\n", "-")) \
                    + text[at + chance.randint(0, 2):]
            sign = sign_of(text)
            met.add(sign)
            if sign is not None:
                self.check_no_text(text, sign)
                continue
            try:
                plan = read_plan(text)
            except NoPlan:
                met.add("no plan")
            else:
                met.add("plan")
                self.assertEqual(show_plan(plan), text)
        self.assertLessEqual({None, 0, 1, 2, "plan", "no plan"}, met)

    def test_show_no_plan(self):
        for thing in no_plans():
            with self.subTest(repr(thing)[:60]):
                self.assertRaises(NoPlan, show_plan, thing)


if __name__ == "__main__":
    unittest.main()
