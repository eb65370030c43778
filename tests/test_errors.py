"""The refusals of anywide.errors."""

import unittest

from anywide import errors

NAMES = ("NoRow", "NoPair", "NoRule", "NoName", "NoText", "TooMany", "Nothing")


class Errors(unittest.TestCase):
    def test_wide_error_stands_straight_under_value_error(self):
        self.assertEqual(errors.WideError.__bases__, (ValueError,))

    def test_each_refusal_stands_straight_under_wide_error(self):
        for name in NAMES:
            with self.subTest(name=name):
                refusal = getattr(errors, name)
                self.assertEqual(refusal.__name__, name)
                self.assertEqual(refusal.__bases__, (errors.WideError,))

    def test_the_refusals_are_seven_and_no_two_are_one(self):
        self.assertEqual(len({getattr(errors, name) for name in NAMES}), 7)
        told = {name for name, thing in vars(errors).items() if isinstance(thing, type)}
        self.assertEqual(told, {"WideError", *NAMES})

    def test_each_is_made_of_a_text(self):
        for name in ("WideError",) + NAMES:
            for text in ("what is wrong", "", "two\nlines"):
                with self.subTest(name=name, text=text):
                    self.assertEqual(str(getattr(errors, name)(text)), text)

    def test_each_is_caught_by_its_name_and_by_those_above_but_by_no_other_one(self):
        for name in NAMES:
            refusal = getattr(errors, name)
            for above in (refusal, errors.WideError, ValueError):
                with self.subTest(name=name, above=above), self.assertRaises(above):
                    raise refusal("what is wrong")
            for other in NAMES:
                if other != name:
                    self.assertNotIsInstance(refusal("what is wrong"), getattr(errors, other))


if __name__ == "__main__":
    unittest.main()
