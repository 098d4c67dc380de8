"""Point 3 and the interface of fewsumlots.errors."""

import unittest

from fewsumlots import errors
from tests.helper import REFUSALS

NAMES = ("NoSet", "NoNumber", "NoSum", "NoRow", "NoRound", "NoMap", "TooMany", "NoText", "NoDeed")


class Refusals(unittest.TestCase):
    def test_set_error_stands_under_value_error(self):
        self.assertEqual(errors.SetError.__bases__, (ValueError,))

    def test_all_nine_are_there_each_its_own_class(self):
        classes = [getattr(errors, name) for name in NAMES]
        self.assertEqual(tuple(classes), REFUSALS)
        self.assertEqual(len(set(classes)), 9)
        for name, refusal in zip(NAMES, classes):
            self.assertEqual(refusal.__name__, name)

    def test_each_stands_straight_under_set_error(self):
        for refusal in REFUSALS:
            with self.subTest(refusal=refusal):
                self.assertEqual(refusal.__bases__, (errors.SetError,))

    def test_none_stands_under_another(self):
        for one in REFUSALS:
            for other in REFUSALS:
                with self.subTest(one=one, other=other):
                    self.assertEqual(issubclass(one, other), one is other)

    def test_each_is_made_with_a_text_and_tells_it(self):
        for refusal in (errors.SetError,) + REFUSALS:
            for text in ("", "why not", "a: b"):
                with self.subTest(refusal=refusal, text=text):
                    self.assertEqual(str(refusal(text)), text)
                    with self.assertRaises(ValueError) as caught:
                        raise refusal(text)
                    self.assertIs(type(caught.exception), refusal)


if __name__ == "__main__":
    unittest.main()
