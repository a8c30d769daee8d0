"""Point 4: fractions."""

import unittest
from fractions import Fraction

from rowbetween.errors import NoQuotient
from rowbetween.fractions import less, made, minus, over, plus, times
from shapes import LONG, RowCase, lowest

SMALL = [made(top, bottom) for top in range(-6, 7) for bottom in range(1, 7)]


class Made(RowCase):
    def test_lowest_terms_and_signs(self):
        self.assertEqual(made(6, 4), (3, 2))
        self.assertEqual(made(-6, 4), (-3, 2))
        self.assertEqual(made(6, -4), (-3, 2))
        self.assertEqual(made(-6, -4), (3, 2))
        self.assertEqual(made(7, 1), (7, 1))
        self.assertEqual(made(7, -1), (-7, 1))
        self.assertEqual(made(4, 12), (1, 3))
        self.assertEqual(made(12, 4), (3, 1))

    def test_nought_has_one_form(self):
        for bottom in (1, -1, 5, -5, 10 ** 80, -LONG):
            self.assertEqual(made(0, bottom), (0, 1))

    def test_all_small_ones(self):
        for top in range(-20, 21):
            for bottom in range(-20, 21):
                if bottom != 0:
                    self.assertEqual(made(top, bottom), lowest(top, bottom))

    def test_long_ones(self):
        for figures in (60, 61, 300, 1000):
            for turn in range(20):
                factor = self.chance.randrange(1, 10 ** figures)
                top = self.chance.randrange(-10 ** figures, 10 ** figures) * factor
                bottom = self.chance.choice([1, -1]) * self.chance.randrange(1, 10 ** figures) * factor
                self.assertTrue(made(top, bottom) == lowest(top, bottom))

    def test_of_10000_figures(self):
        self.assertTrue(made(LONG, LONG) == (1, 1))
        self.assertTrue(made(-LONG, 2 * LONG) == (-1, 2))
        top = self.chance.randrange(LONG, 10 * LONG)
        bottom = self.chance.randrange(LONG, 10 * LONG)
        self.assertTrue(made(top, -bottom) == lowest(top, -bottom))

    def test_a_tuple_of_whole_numbers(self):
        for fraction in (made(1, 1), made(0, 3), made(-9, 3), plus((1, 2), (1, 2)), over((1, 2), (-1, 3))):
            self.assertIs(type(fraction), tuple)
            self.assertEqual([type(part) for part in fraction], [int, int])


class Reckoning(RowCase):
    def check(self, one, other):
        first = Fraction(*one)
        second = Fraction(*other)
        self.assertTrue(plus(one, other) == lowest(first + second, 1))
        self.assertTrue(minus(one, other) == lowest(first - second, 1))
        self.assertTrue(times(one, other) == lowest(first * second, 1))
        if second != 0:
            self.assertTrue(over(one, other) == lowest(first, second))
        self.assertIs(less(one, other), first < second)

    def test_by_hand(self):
        self.assertEqual(plus((1, 2), (1, 3)), (5, 6))
        self.assertEqual(plus((1, 6), (1, 3)), (1, 2))
        self.assertEqual(plus((1, 2), (-1, 2)), (0, 1))
        self.assertEqual(minus((1, 2), (1, 3)), (1, 6))
        self.assertEqual(minus((1, 3), (1, 2)), (-1, 6))
        self.assertEqual(times((2, 3), (3, 4)), (1, 2))
        self.assertEqual(times((2, 3), (0, 1)), (0, 1))
        self.assertEqual(over((2, 3), (-4, 3)), (-1, 2))
        self.assertEqual(over((0, 1), (-4, 3)), (0, 1))

    def test_order_by_hand(self):
        self.assertIs(less((1, 3), (1, 2)), True)
        self.assertIs(less((1, 2), (1, 3)), False)
        self.assertIs(less((1, 2), (1, 2)), False)
        self.assertIs(less((-1, 2), (-1, 3)), True)
        self.assertIs(less((-1, 3), (-1, 2)), False)
        self.assertIs(less((-1, 9), (0, 1)), True)
        self.assertIs(less((0, 1), (-1, 9)), False)
        self.assertIs(less((10 ** 60, 10 ** 60 + 1), (10 ** 60 + 1, 10 ** 60 + 2)), True)
        self.assertIs(less((10 ** 60 + 1, 10 ** 60 + 2), (10 ** 60, 10 ** 60 + 1)), False)

    def test_all_small_ones(self):
        for one in SMALL:
            for other in SMALL:
                self.check(one, other)

    def test_long_ones(self):
        def fraction(figures):
            top = self.chance.randrange(-10 ** figures, 10 ** figures)
            return lowest(top, self.chance.randrange(1, 10 ** figures))

        for figures in (60, 90, 500):
            for turn in range(20):
                self.check(fraction(figures), fraction(figures))
        self.check(fraction(10000), fraction(10000))


class Refusals(RowCase):
    def test_made_refuses_nought_as_the_bottom(self):
        for top in (7, -7, 0, 10 ** 70, LONG):
            self.assertTrue(self.refusal(NoQuotient, made, top, 0).top == top)

    def test_over_refuses_nought(self):
        for one in ((7, 2), (-7, 2), (0, 1), (LONG, 7)):
            top = self.refusal(NoQuotient, over, one, (0, 1)).top
            self.assertIs(type(top), tuple)
            self.assertTrue(top == one)

    def test_what_can_be_told_is_told_behind_a_refusal(self):
        ahead = (made(6, 4), over((1, 2), (3, 4)))
        self.refusal(NoQuotient, made, 6, 0)
        self.refusal(NoQuotient, over, (1, 2), (0, 1))
        self.assertEqual((made(6, 4), over((1, 2), (3, 4))), ahead)


if __name__ == "__main__":
    unittest.main()
