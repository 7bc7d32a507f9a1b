"""Promise 2: the refusals."""

import unittest

from surefoot.errors import BadRow, BadText, FootError, NoNumber, NoRatio, TooGreat

REFUSALS = (NoRatio, NoNumber, TooGreat, BadText, BadRow)
TEXTS = ("", " ", "no such number", "a\nb", "0", "{at}")


class Refusals(unittest.TestCase):
    def test_each_stands_under_foot_error_and_value_error(self):
        self.assertTrue(issubclass(FootError, ValueError))
        for kind in REFUSALS:
            with self.subTest(kind=kind.__name__):
                self.assertTrue(issubclass(kind, FootError))
                self.assertIsNot(kind, FootError)

    def test_none_stands_under_another(self):
        for kind in REFUSALS:
            for other in REFUSALS:
                if kind is not other:
                    self.assertFalse(issubclass(kind, other), (kind, other))
            self.assertFalse(issubclass(FootError, kind))

    def test_names(self):
        self.assertEqual(
            [kind.__name__ for kind in REFUSALS],
            ["NoRatio", "NoNumber", "TooGreat", "BadText", "BadRow"],
        )

    def test_str_is_the_text(self):
        for kind in REFUSALS + (FootError,):
            for text in TEXTS:
                self.assertEqual(str(kind(text)), text)

    def test_str_of_bad_text_leaves_the_place_out(self):
        for text in TEXTS:
            self.assertEqual(str(BadText(text, 7)), text)

    def test_at_as_told(self):
        for place in (0, 1, 5, 2 ** 400):
            self.assertEqual(BadText("text", place).at, place)

    def test_at_left_out_is_0(self):
        self.assertEqual(BadText("text").at, 0)
        self.assertIs(type(BadText("text").at), int)

    def test_at_is_each_object_s_own(self):
        first = BadText("one", 3)
        BadText("other", 4)
        self.assertEqual(first.at, 3)

    def test_raised_and_taken_as_value_error(self):
        for kind in REFUSALS:
            with self.assertRaises(ValueError) as taken:
                raise kind("told")
            self.assertIs(type(taken.exception), kind)
            self.assertEqual(str(taken.exception), "told")


if __name__ == "__main__":
    unittest.main()
