"""Point 16, and 1, 2, 3, 7 and 9 for it: the pieces of the numbers that a name can have."""

import copy
import unittest
from fractions import Fraction

from rowbetween.errors import TooMany
from rowbetween.sayings import names_of
from rowbetween.stretches import stretch
from shapes import (
    RowCase, both, either, fitting_saying, joined, least, lowest, more, no, put_into, random_row, within,
)

WHOLE = (None, False, None, False)
A = least(1, a=1)
B = more(2, b=-3)
C = least(-3, c=2)
FIVE = joined("either", [A, B, C, A, B])
LONGER = joined("both", [A, B, C, A])


def span(low, low_in, high, high_in, name="a"):
    """The saying that a name lies between two whole numbers."""
    return both((least if low_in else more)(low, **{name: 1}), (least if high_in else more)(-high, **{name: -1}))


def piece(low, low_in, high, high_in):
    """A piece between whole numbers, or None."""
    return (None if low is None else (low, 1), low_in, None if high is None else (high, 1), high_in)


def is_in(number, told):
    """Whether a number is in one of the pieces."""
    for low, low_in, high, high_in in told:
        above = low is None or number > Fraction(*low) or (low_in and number == Fraction(*low))
        below = high is None or number < Fraction(*high) or (high_in and number == Fraction(*high))
        if above and below:
            return True
    return False


class Stretched(RowCase):
    def look_at(self, saying, name):
        """Ask for a stretch, look at its form, and tell it."""
        kept = copy.deepcopy(saying)
        told = stretch(saying, name)
        self.assertEqual(saying, kept)
        self.assertIs(type(told), list)
        for one in told:
            self.assertEqual([type(one), len(one), type(one[1]), type(one[3])], [tuple, 4, bool, bool])
            self.is_end(one[0], one[1])
            self.is_end(one[2], one[3])
            if one[0] is not None and one[2] is not None:
                low, high = Fraction(*one[0]), Fraction(*one[2])
                self.assertTrue(low < high or (low == high and one[1] and one[3]), told)
        for one, other in zip(told, told[1:]):
            high, low = Fraction(*one[2]), Fraction(*other[0])
            self.assertTrue(high < low or (high == low and not one[3] and not other[1]), told)
        return told

    def is_end(self, number, number_in):
        if number is None:
            self.assertIs(number_in, False)
        else:
            self.is_fraction(number)

    def look_at_numbers(self, saying, name, told, numbers):
        """Look whether the pieces have just those of some numbers at which the saying can be so."""
        for number in numbers:
            left = put_into(saying, {name: lowest(number.numerator, number.denominator)})
            self.assertIs(is_in(number, told), self.somewhere(left), (saying, name, told, number))

    def numbers_about(self, told):
        """The ends of pieces and numbers just beside them, and some others."""
        ends = [Fraction(*end) for one in told for end in (one[0], one[2]) if end is not None]
        step = Fraction(1, 10 ** 12)
        numbers = ends + [end - step for end in ends] + [end + step for end in ends]
        return numbers + [Fraction(self.chance.randint(-30, 30), self.chance.randint(1, 6)) for turn in range(8)]


class Pieces(Stretched):
    def test_of_rows(self):
        self.assertEqual(stretch(least(3, a=2), "a"), [((3, 2), True, None, False)])
        self.assertEqual(stretch(more(3, a=2), "a"), [((3, 2), False, None, False)])
        self.assertEqual(stretch(least(3, a=-2), "a"), [(None, False, (-3, 2), True)])
        self.assertEqual(stretch(more(4, a=-2), "a"), [(None, False, (-2, 1), False)])
        self.assertEqual(stretch(no(least(3, a=2)), "a"), [(None, False, (3, 2), False)])

    def test_open_and_closed(self):
        for low_in in (True, False):
            for high_in in (True, False):
                told = stretch(span(1, low_in, 4, high_in), "a")
                self.assertEqual(told, [piece(1, low_in, 4, high_in)])

    def test_one_number_alone(self):
        self.assertEqual(stretch(span(3, True, 3, True), "a"), [piece(3, True, 3, True)])
        self.assertEqual(stretch(both(least(2, a=6), least(-1, a=-3)), "a"), [((1, 3), True, (1, 3), True)])
        self.assertEqual(stretch(span(3, False, 3, True), "a"), [])
        self.assertEqual(stretch(span(3, True, 3, False), "a"), [])
        self.assertEqual(stretch(span(3, False, 3, False), "a"), [])

    def test_none_at_all(self):
        for saying in (span(3, True, 2, True), both(A, more(0)), more(0), both(A, span(3, True, 2, True, "b"))):
            self.assertEqual(stretch(saying, "a"), [])
            self.assertEqual(stretch(saying, "b"), [])
            self.assertEqual(stretch(saying, "z"), [])

    def test_without_ends(self):
        self.assertEqual(stretch(least(3, a=1, b=1), "a"), [WHOLE])
        self.assertEqual(stretch(either(least(3, a=1), least(-3, a=-1)), "a"), [WHOLE])
        self.assertEqual(stretch(either(least(3, a=1), more(0, b=1)), "a"), [WHOLE])
        self.assertEqual(stretch(either(least(3, a=1), more(0)), "a"), [piece(3, True, None, False)])

    def test_a_name_that_does_not_stand_in_the_saying(self):
        self.assertEqual(stretch(A, "z"), [WHOLE])
        self.assertEqual(stretch(least(0), "z"), [WHOLE])
        self.assertEqual(stretch(joined("either", [A, B, C]), "z"), [WHOLE])
        self.assertEqual(stretch(both(A, least(0, a=-1)), "z"), [])
        self.assertEqual(stretch(more(0), "z"), [])

    def test_a_name_that_stands_in_some_cases_alone(self):
        saying = either(both(least(1, a=1), least(0, a=-1)), span(1, True, 2, True, "b"))
        self.assertEqual(stretch(saying, "a"), [WHOLE])
        self.assertEqual(stretch(saying, "b"), [piece(1, True, 2, True)])

    def test_other_names_are_taken_out(self):
        saying = joined("both", [least(0, a=1, b=-2), least(1, b=1), more(-3, a=-1, b=-1)])
        self.assertEqual(stretch(saying, "a"), [])
        saying = joined("both", [least(0, a=1, b=-2), least(1, b=1), more(-5, a=-1, b=-1)])
        self.assertEqual(stretch(saying, "a"), [piece(2, True, 4, False)])
        self.assertEqual(stretch(saying, "b"), [((1, 1), True, (5, 3), False)])

    def test_open_ends_of_rows_added_up(self):
        for one, other, is_closed in ((least, least, True), (more, least, False), (least, more, False)):
            saying = both(one(0, a=1, b=-1), other(7, b=2))
            self.assertEqual(stretch(saying, "a"), [((7, 2), is_closed, None, False)])

    def test_a_tighter_end_and_one_at_the_same_number(self):
        for rows, wanted in (
            ([least(1, a=1), more(1, a=1)], piece(1, False, None, False)),
            ([more(1, a=1), least(1, a=1)], piece(1, False, None, False)),
            ([least(1, a=1), more(0, a=1)], piece(1, True, None, False)),
            ([more(0, a=1), least(1, a=1)], piece(1, True, None, False)),
            ([least(1, a=-1), more(1, a=-1)], piece(None, False, -1, False)),
            ([more(0, a=-1), least(1, a=-1)], piece(None, False, -1, True)),
            ([least(1, a=-1), more(0, a=-1)], piece(None, False, -1, True)),
        ):
            self.assertEqual(stretch(joined("both", rows), "a"), [wanted])


class Touching(Stretched):
    def test_in_order_from_below(self):
        spans = [span(5, True, 6, False), span(-3, False, -2, True), span(1, True, 1, True)]
        wanted = [piece(-3, False, -2, True), piece(1, True, 1, True), piece(5, True, 6, False)]
        for order in ((0, 1, 2), (0, 2, 1), (1, 0, 2), (1, 2, 0), (2, 0, 1), (2, 1, 0)):
            self.assertEqual(stretch(joined("either", [spans[place] for place in order]), "a"), wanted)

    def test_pieces_that_would_touch(self):
        for high_in in (True, False):
            for low_in in (True, False):
                one = span(1, True, 2, high_in)
                other = span(2, low_in, 3, False)
                wanted = [piece(1, True, 3, False)]
                if not high_in and not low_in:
                    wanted = [piece(1, True, 2, False), piece(2, False, 3, False)]
                self.assertEqual(stretch(either(one, other), "a"), wanted)
                self.assertEqual(stretch(either(other, one), "a"), wanted)

    def test_one_number_fills_the_gap(self):
        gap = either(span(1, True, 2, False), span(2, False, 3, True))
        for saying in (either(gap, span(2, True, 2, True)), either(span(2, True, 2, True), gap)):
            self.assertEqual(stretch(saying, "a"), [piece(1, True, 3, True)])
        self.assertEqual(len(stretch(either(gap, span(4, True, 4, True)), "a")), 3)

    def test_one_piece_over_several(self):
        spans = [span(1, True, 2, True), span(4, True, 5, True), span(7, True, 8, True)]
        told = stretch(joined("either", spans + [span(2, False, 7, False)]), "a")
        self.assertEqual(told, [piece(1, True, 8, True)])
        told = stretch(joined("either", spans + [more(-6, a=-1)]), "a")
        self.assertEqual(told, [piece(None, False, 6, False), piece(7, True, 8, True)])
        told = stretch(joined("either", spans + [span(0, False, 9, False)]), "a")
        self.assertEqual(told, [piece(0, False, 9, False)])
        told = stretch(joined("either", spans + [span(5, False, 9, False)]), "a")
        self.assertEqual(told, [piece(1, True, 2, True), piece(4, True, 9, False)])

    def test_ends_at_the_same_number(self):
        for one, other, wanted in (
            (span(1, False, 3, True), span(1, True, 2, True), piece(1, True, 3, True)),
            (span(1, False, 3, False), span(2, True, 3, True), piece(1, False, 3, True)),
            (span(1, True, 1, True), span(1, False, 2, False), piece(1, True, 2, False)),
            (span(2, True, 2, True), span(1, False, 2, False), piece(1, False, 2, True)),
            (span(1, False, 2, False), span(1, False, 2, False), piece(1, False, 2, False)),
            (more(1, a=1), span(1, True, 2, True), piece(1, True, None, False)),
        ):
            self.assertEqual(stretch(either(one, other), "a"), [wanted])
            self.assertEqual(stretch(either(other, one), "a"), [wanted])

    def test_a_number_that_is_left_out(self):
        self.assertEqual(
            stretch(either(more(1, a=3), more(-1, a=-3)), "a"),
            [(None, False, (1, 3), False), ((1, 3), False, None, False)],
        )

    def test_any_spans(self):
        for turn in range(400):
            spans = []
            for place in range(self.chance.randint(1, 4)):
                ends = sorted([self.chance.randint(0, 6), self.chance.randint(0, 6)])
                row = span(ends[0], self.chance.random() < 0.5, ends[1], self.chance.random() < 0.5)
                spans.append(row if self.chance.random() < 0.8 else row[self.chance.choice([1, 2])])
            saying = joined("either", spans)
            told = self.look_at(saying, "a")
            self.look_at_numbers(saying, "a", told, [Fraction(place, 2) for place in range(-2, 15)])


class Any(Stretched):
    def test_any_saying(self):
        seen = {}
        for turn in range(300):
            saying = fitting_saying(self.chance, self.chance.choice(["a", "ab", "abc", "abcd"]))
            name = self.chance.choice((names_of(saying) or ["z"]) * 9 + ["z"])
            told = self.look_at(saying, name)
            seen[len(told)] = seen.get(len(told), 0) + 1
            self.look_at_numbers(saying, name, told, self.numbers_about(told))
        self.assertTrue(seen[0] > 10 and seen[1] > 100 and seen[2] > 0, seen)

    def test_names_bound_to_one_another(self):
        for turn in range(200):
            cases = []
            for place in range(4):
                low = self.chance.randint(-9, 9)
                cases.append(joined("both", [
                    self.chance.choice([least, more])(low, a=1, b=self.chance.choice([1, 2])),
                    self.chance.choice([least, more])(-low - self.chance.randint(-1, 3), a=-1, b=-1),
                    random_row(self.chance, "ab", 3),
                ]))
            saying = joined("either", cases)
            told = self.look_at(saying, "b")
            self.look_at_numbers(saying, "b", told, self.numbers_about(told))

    def test_60_figures(self):
        def case():
            return joined("both", [self.full_row("abc") for turn in range(3)])

        with within(60):
            for turn in range(20):
                saying = joined("either", [case() for turn in range(4)])
                told = self.look_at(saying, "a")
                self.look_at_numbers(saying, "a", told, self.numbers_about(told))
        top = 10 ** 60 - 1
        saying = both(least(top - 1, a=top), least(2 - top, a=1 - top))
        self.assertEqual(stretch(saying, "a"), [])
        saying = both(least(top - 2, a=top - 1), least(1 - top, a=-top))
        self.assertEqual(stretch(saying, "a"), [((top - 2, top - 1), True, (top - 1, top), True)])

    def test_the_same_again_and_the_askers_own(self):
        saying = either(span(1, True, 2, False), span(4, True, 5, False))
        first = stretch(saying, "a")
        ahead = list(first)
        first.clear()
        self.assertEqual(stretch(saying, "a"), ahead)
        second = stretch(saying, "a")
        stretch(A, "a").append(WHOLE)
        self.assertEqual(second, ahead)
        self.assertEqual(stretch(A, "a"), [piece(1, True, None, False)])


class Refusals(Stretched):
    def test_too_many(self):
        for many in (FIVE, LONGER, no(no(FIVE)), both(more(0), FIVE), no(joined("either", [A, B, C, A]))):
            for name in "abz":
                self.assertEqual(self.refusal(TooMany, stretch, many, name).saying, many)

    def test_very_many_cases_are_refused_quickly(self):
        many = joined("both", [either(A, B)] * 59)
        with within(10):
            self.assertEqual(self.refusal(TooMany, stretch, many, "a").saying, many)

    def test_a_refusal_changes_nothing(self):
        ahead = stretch(A, "a")
        kept = copy.deepcopy(FIVE)
        self.refusal(TooMany, stretch, FIVE, "a")
        self.assertEqual(FIVE, kept)
        self.assertEqual(stretch(A, "a"), ahead)


if __name__ == "__main__":
    unittest.main()
