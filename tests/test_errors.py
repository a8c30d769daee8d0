"""Point 3: the refusals' classes and fields."""

import copy
import unittest

from rowbetween.errors import NoName, NoQuotient, RowError, TooMany
from shapes import LONG, least

REFUSALS = [NoQuotient, NoName, TooMany]


class Classes(unittest.TestCase):
    def test_all_stand_under_row_error_and_that_under_value_error(self):
        self.assertTrue(issubclass(RowError, ValueError))
        for refusal in REFUSALS:
            self.assertTrue(issubclass(refusal, RowError))
            self.assertIsNot(refusal, RowError)

    def test_none_stands_under_another(self):
        for one in REFUSALS:
            for other in REFUSALS:
                if one is not other:
                    self.assertFalse(issubclass(one, other))

    def test_row_error_is_made_of_a_text(self):
        self.assertEqual(str(RowError("some words")), "some words")


class Fields(unittest.TestCase):
    def test_each_is_made_of_its_field(self):
        saying = least(1, a=1)
        self.assertEqual(NoQuotient(7).top, 7)
        self.assertEqual(NoQuotient((7, 2)).top, (7, 2))
        self.assertEqual(NoName("q").name, "q")
        self.assertEqual(TooMany(saying).saying, saying)

    def test_the_words_can_be_shown_whatever_was_handed_in(self):
        for error in (NoQuotient(LONG), NoQuotient((LONG, 7)), NoName("a"), TooMany(least(LONG, a=LONG))):
            self.assertIsInstance(str(error), str)
            self.assertNotEqual(str(error), "")
            self.assertIsInstance(repr(error), str)

    def test_a_copied_error_keeps_its_field(self):
        self.assertEqual(copy.copy(NoQuotient(7)).top, 7)
        self.assertEqual(copy.copy(NoName("q")).name, "q")
        self.assertEqual(copy.copy(TooMany(least(1))).saying, least(1))


if __name__ == "__main__":
    unittest.main()
