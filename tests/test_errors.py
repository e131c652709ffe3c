"""Point 3, and the interface of comersline/errors.py: the classes of the refusals."""

import unittest

from comersline import errors

BARE = ("NoPlan", "NoPerson", "NoMoment", "TooMany", "NoOther", "NoPlace", "NoEnd", "NoOrder", "NoNumber",
        "NoPatience", "Nobody", "Nothing", "NoHistory", "NoForm", "NoneYet")


class Classes(unittest.TestCase):
    def test_any_refusal_is_a_value_error(self):
        self.assertEqual(errors.LineError.__bases__, (ValueError,))

    def test_each_stands_under_line_error_alone(self):
        for name in BARE + ("NoText",):
            with self.subTest(name):
                refusal = getattr(errors, name)
                self.assertEqual(refusal.__bases__, (errors.LineError,))
                self.assertEqual(refusal.__name__, name)
                self.assertEqual(refusal.__module__, "comersline.errors")

    def test_none_stands_under_another(self):
        names = BARE + ("NoText",)
        for name in names:
            for other in names:
                if name != other:
                    self.assertFalse(issubclass(getattr(errors, name), getattr(errors, other)), (name, other))

    def test_each_can_be_made_and_raised(self):
        for name in BARE:
            for words in ((), ("some words",)):
                with self.assertRaises(errors.LineError) as caught:
                    raise getattr(errors, name)(*words)
                self.assertEqual(type(caught.exception).__name__, name)

    def test_no_text_tells_its_sign(self):
        for sign in (0, 1, 7, 4000, None):
            refusal = errors.NoText(sign)
            self.assertEqual(refusal.sign, sign)
            with self.assertRaises(errors.LineError) as caught:
                raise refusal
            self.assertEqual(caught.exception.sign, sign)
        with self.assertRaises(TypeError):
            errors.NoText()


if __name__ == "__main__":
    unittest.main()
