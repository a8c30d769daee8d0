"""Points 11 to 13, and 1, 2, 3, 7 and 9 for them: two sayings, points, papers, and what lies between."""

import copy
import unittest

from rowbetween.between import between, both_so, lets_by
from rowbetween.errors import TooMany
from rowbetween.sayings import cases, is_so, names_of
from shapes import (
    LONG, RowCase, all_cases, both, count_parts, depth, either, fits, fitting_saying, joined, least, more, no,
    plain_form, random_point, shows, value, within,
)

A = least(1, a=1)
B = more(2, b=-3)
C = least(-3, c=2)
FOUR = joined("either", [A, B, C, A])
FIVE = joined("either", [A, B, C, A, B])
LONGER = joined("both", [A, B, C, A])

# a is at least 1 or b is; both are nought or less.
SPLIT = either(least(1, a=1), least(1, b=1))
LOW = both(least(0, a=-1), least(0, b=-1))

APART = [
    (least(1, a=1), least(0, a=-1)),
    (more(1, a=1), least(-1, a=-1)),
    (least(1, a=1), no(least(1, a=1))),
    (SPLIT, LOW),
    (LOW, SPLIT),
    (both(least(1, a=1, b=1), least(1, a=1, b=-1)), both(more(-1, a=-1), least(7, c=1))),
    (both(least(0, a=1, x=1), least(0, a=1, x=-1)), both(more(0, b=1, a=-1), least(0, b=-1, a=-1))),
    (more(0), least(1, a=1)),
    (least(1, a=1), more(0)),
    (more(0), least(1)),
    (both(least(1, a=1), least(0, a=-1)), least(0, a=1)),
    (least(0, a=1), both(least(1, a=1), least(0, a=-1))),
    (no(either(least(1, a=1), least(1, b=1))), either(least(1, a=1), least(1, b=1))),
    (either(more(3, a=1), more(3, a=-1)), both(least(-3, a=1), least(-3, a=-1))),
]
TOGETHER = [
    (least(1, a=1), least(-1, a=-1)),
    (SPLIT, least(0, a=-1)),
    (either(more(0), A), either(more(0), B)),
    (either(more(0, a=1), more(0, b=1)), both(least(0, a=-1), least(0, c=1))),
    (least(0), least(0)),
    (least(0), either(least(1), more(-1))),
    (either(A, least(0)), more(-1)),
]


class TwoSayings(RowCase):
    def is_paper(self, one, other, told):
        """Look through a paper by the document's words."""
        firsts = all_cases(plain_form(one))
        seconds = all_cases(plain_form(other))
        if type(told) is not tuple or len(told) != len(firsts):
            return False
        for first, line in zip(firsts, told):
            if type(line) is not tuple or len(line) != len(seconds):
                return False
            if not all(shows(first + second, weights) for second, weights in zip(seconds, line)):
                return False
        return True

    def look_at(self, one, other):
        """Ask for two sayings, look through the answer, and tell whether it is a point."""
        kept = copy.deepcopy((one, other))
        told = both_so(one, other)
        self.assertEqual((one, other), kept)
        self.assertEqual([type(told), len(told)], [tuple, 2])
        if told[0] == "paper":
            self.assertTrue(self.is_paper(one, other, told[1]), (one, other, told))
            self.assertIs(lets_by(one, other, told[1]), True)
            return False
        self.assertEqual(told[0], "point")
        self.is_point(told[1], names_of(both(one, other)))
        self.assertTrue(value(one, told[1]) and value(other, told[1]), (one, other, told))
        return True

    def look_between(self, one, other):
        """Ask for a saying between two, look through it, and tell whether there is one."""
        kept = copy.deepcopy((one, other))
        told = between(one, other)
        self.assertEqual((one, other), kept)
        if told is None:
            return False
        self.is_saying(told)
        self.assertLessEqual(set(names_of(told)), set(names_of(one)) & set(names_of(other)))
        for turn in range(10):
            point = random_point(self.chance, "abcdxy")
            self.assertTrue(value(told, point) or not value(one, point))
            self.assertFalse(value(told, point) and value(other, point))
        self.assertFalse(self.somewhere(both(one, no(told))), (one, other, told))
        self.assertFalse(self.somewhere(both(told, other)), (one, other, told))
        return True


class BothSo(TwoSayings):
    def test_a_point_that_does_both(self):
        for one, other in TOGETHER:
            self.assertIs(self.look_at(one, other), True, (one, other))
            self.assertIs(self.look_at(other, one), True, (one, other))

    def test_a_paper_where_none_does(self):
        for one, other in APART:
            self.assertIs(self.look_at(one, other), False, (one, other))
            self.assertIs(self.look_at(other, one), False, (one, other))

    def test_the_only_point(self):
        one = both(least(1, a=2), least(0, a=1, b=-3))
        other = both(least(-1, a=-2), least(0, a=-1, b=3))
        self.assertEqual(both_so(one, other), ("point", {"a": (1, 2), "b": (1, 6)}))

    def test_just_the_names_of_either(self):
        for one, other, names in (
            (either(A, B), least(0), "ab"),
            (least(0), either(B, C), "bc"),
            (either(A, B), either(C, A), "abc"),
            (both(least(0), least(0)), least(0), ""),
        ):
            kind, point = both_so(one, other)
            self.assertEqual([kind, sorted(point)], ["point", list(names)])

    def test_papers_are_as_wide_as_the_cases(self):
        for one, other in APART:
            kind, paper = both_so(one, other)
            lengths = [[len(weights) for weights in line] for line in paper]
            wanted = [[len(first) + len(second) for second in cases(other)] for first in cases(one)]
            self.assertEqual(lengths, wanted)

    def test_a_row_that_stands_twice_has_two_weights(self):
        kind, paper = both_so(both(A, A), both(least(0, a=-1), least(0, a=-1)))
        self.assertEqual([kind, len(paper[0][0])], ["paper", 4])

    def test_only_the_last_two_cases_do(self):
        one = joined("either", [more(0), more(0, a=1), more(0, a=1), least(5, b=1)])
        other = joined("either", [both(least(0, a=-1), least(0, b=-1))] * 3 + [both(least(0, a=-1), least(0, b=1))])
        self.assertIs(self.look_at(one, other), True)

    def test_any_sayings(self):
        seen = [0, 0]
        for turn in range(700):
            one = fitting_saying(self.chance, self.chance.choice(["a", "ab", "abcd"]))
            other = fitting_saying(self.chance, self.chance.choice(["a", "ab", "abcd"]))
            seen[self.look_at(one, other)] += 1
        self.assertGreater(min(seen), 100)

    def test_any_saying_and_its_not(self):
        seen = 0
        while seen < 100:
            one = fitting_saying(self.chance, "abc")
            if fits(all_cases(plain_form(no(one)))):
                self.assertIs(self.look_at(one, no(one)), False)
                seen += 1

    def test_four_cases_of_three_rows_with_60_figures(self):
        def case(last):
            rows = [self.full_row("abcd") for turn in range(2)]
            return joined("both", rows + [last])

        sum_of = {name: self.sixty_figures() for name in "abcd"}
        above = more(10 ** 59, **sum_of)
        below = least(-10 ** 59, **{name: -weight for name, weight in sum_of.items()})
        with within(60):
            one = joined("either", [case(above) for turn in range(4)])
            other = joined("either", [case(below) for turn in range(4)])
            self.assertIs(self.look_at(one, other), False)
            self.assertIs(self.look_at(one, one), True)
            self.assertIs(self.look_at(other, joined("either", [case(more(0)) for turn in range(3)] + [below])), True)

    def test_the_same_again_and_the_askers_own(self):
        for one, other in TOGETHER + APART:
            first = both_so(one, other)
            ahead = copy.deepcopy(first)
            if first[0] == "point":
                first[1]["q"] = (9, 7)
            self.assertEqual(both_so(one, other), ahead)


class LetsBy(TwoSayings):
    def test_by_hand(self):
        one = either(least(1, a=1), both(more(2, a=2), least(0, b=1)))
        other = least(0, a=-1)
        self.assertIs(lets_by(one, other, (((1, 1),), ((1, 0, 2),))), True)
        self.assertIs(lets_by(one, other, (((5, 5),), ((3, 0, 6),))), True)
        self.assertIs(lets_by(one, other, (((LONG, LONG),), ((LONG, 0, 2 * LONG),))), True)
        for paper in (
            (((1, 1),), ((1, 0, 1),)),
            (((1, 1),), ((1, 1, 2),)),
            (((1, 1),), ((0, 0, 0),)),
            (((0, 0),), ((1, 0, 2),)),
            (((-1, -1),), ((1, 0, 2),)),
            (((1, 1),), ((-1, 0, -2),)),
            (((1, 0),), ((1, 0, 2),)),
            (((LONG, LONG),), ((LONG, 0, 2 * LONG + 1),)),
            (((1, 0, 2),), ((1, 1),)),
        ):
            self.assertIs(lets_by(one, other, paper), False, paper)

    def test_tuples_too_short_or_too_long(self):
        one = either(least(1, a=1), both(more(2, a=2), least(0, b=1)))
        other = least(0, a=-1)
        first = (1, 1)
        second = (1, 0, 2)
        for paper in (
            (),
            ((),),
            ((), ()),
            (((),), ((),)),
            ((first,),),
            ((second,),),
            ((first,), (second,), (second,)),
            ((first,), (second,), ()),
            ((first,), ()),
            ((first,), (second, second)),
            ((first, second),),
            ((first, first), (second,)),
            (((1,),), (second,)),
            (((1, 1, 0),), (second,)),
            ((first,), ((1, 0, 2, 0),)),
            ((first,), ((1, 2),)),
            ((first,), ((),)),
            (((1, 1, 5),), (second,)),
        ):
            self.assertIs(lets_by(one, other, paper), False, paper)

    def test_bounds_that_come_to_just_nought(self):
        for one, other, lets in (
            (more(1, a=1), least(-1, a=-1), True),
            (least(1, a=1), more(-1, a=-1), True),
            (least(1, a=1), least(-1, a=-1), False),
            (both(least(1, a=1), more(0, a=1)), least(-1, a=-1), False),
        ):
            rows = cases(both(one, other))[0]
            weights = tuple([1] + [0] * (len(rows) - 2) + [1])
            self.assertIs(lets_by(one, other, ((weights,),)), lets)

    def test_bounds_that_come_to_less(self):
        self.assertIs(lets_by(more(1, a=1), more(-2, a=-1), (((1, 1),),)), False)

    def test_a_weight_below_nought_that_would_do_the_sum(self):
        self.assertIs(lets_by(least(1, a=1), least(5, a=1), (((-1, 1),),)), False)
        self.assertIs(lets_by(least(-7), least(0), (((-1, 0),),)), False)
        self.assertIs(lets_by(both(more(0, a=1), more(0, a=1)), least(0, a=-1), (((-1, 2, 1),),)), False)
        self.assertIs(lets_by(both(more(0, a=1), more(0, a=1)), least(0, a=-1), (((0, 1, 1),),)), True)

    def test_rows_without_names(self):
        self.assertIs(lets_by(more(0), least(0), (((1, 0),),)), True)
        self.assertIs(lets_by(more(0), least(0), (((0, 1),),)), False)
        self.assertIs(lets_by(least(1), more(-1), (((2, 1),),)), True)
        self.assertIs(lets_by(least(1), more(-1), (((1, 1),),)), True)
        self.assertIs(lets_by(least(1), more(-1), (((1, 2),),)), False)

    def test_no_paper_is_let_by_where_a_point_does_both(self):
        for one, other in TOGETHER:
            firsts = cases(one)
            seconds = cases(other)
            for turn in range(30):
                paper = tuple(
                    tuple(tuple(self.chance.randint(0, 2) for row in first + second) for second in seconds)
                    for first in firsts
                )
                self.assertIs(lets_by(one, other, paper), False)

    def test_papers_changed_at_chance(self):
        seen = [0, 0]
        for turn in range(1500):
            one, other = self.chance.choice(APART)
            paper = [[list(weights) for weights in line] for line in both_so(one, other)[1]]
            line = self.chance.choice(paper)
            weights = self.chance.choice(line)
            place = self.chance.randrange(len(weights))
            weights[place] = self.chance.choice([weights[place] + 1, 2 * weights[place], -weights[place], 0])
            changed = tuple(tuple(tuple(weights) for weights in line) for line in paper)
            told = lets_by(one, other, changed)
            self.assertIs(told, self.is_paper(one, other, changed), (one, other, changed))
            seen[told] += 1
        self.assertGreater(min(seen), 100)

    def test_the_papers_of_others(self):
        for one, other in APART:
            for first, second in APART:
                paper = both_so(first, second)[1]
                self.assertIs(lets_by(one, other, paper), self.is_paper(one, other, paper))


class Between(TwoSayings):
    def test_none_where_a_point_does_both(self):
        for one, other in TOGETHER:
            self.assertIs(between(one, other), None)
            self.assertIs(between(other, one), None)

    def test_a_saying_where_none_does(self):
        for one, other in APART:
            self.assertIs(self.look_between(one, other), True, (one, other))
            self.assertIs(self.look_between(other, one), True, (one, other))

    def test_at_points_of_both(self):
        told = between(SPLIT, LOW)
        for point, is_told in (
            ({"a": (1, 1), "b": (-50, 1)}, True),
            ({"a": (-50, 1), "b": (1, 1)}, True),
            ({"a": (9, 1), "b": (9, 1)}, True),
            ({"a": (0, 1), "b": (0, 1)}, False),
            ({"a": (-50, 1), "b": (0, 1)}, False),
            ({"a": (0, 1), "b": (-50, 1)}, False),
        ):
            self.assertIs(is_so(told, point), is_told)

    def test_open_and_closed_ends(self):
        told = between(more(1, a=1), least(-1, a=-1))
        self.assertIs(is_so(told, {"a": (1, 1)}), False)
        self.assertIs(is_so(told, {"a": (10 ** 9 + 1, 10 ** 9)}), True)
        told = between(least(1, a=1), more(-1, a=-1))
        self.assertIs(is_so(told, {"a": (1, 1)}), True)
        self.assertIs(is_so(told, {"a": (10 ** 9 - 1, 10 ** 9)}), False)

    def test_only_names_that_stand_in_both(self):
        one = both(least(0, a=1, x=-1), least(0, x=1, y=-1))
        other = both(more(0, y=1, b=-1), least(0, b=1, a=-1))
        told = between(one, other)
        self.assertEqual(names_of(told), ["a", "y"])
        self.assertIs(self.look_between(one, other), True)

    def test_no_name_in_common(self):
        for one, other, is_told in (
            (more(0, a=1), both(least(1, b=1), least(0, b=-1)), True),
            (both(least(1, b=1), least(0, b=-1)), more(0, a=1), False),
        ):
            told = between(one, other)
            self.assertEqual(names_of(told), [])
            self.assertIs(is_so(told, {}), is_told)

    def test_any_sayings(self):
        seen = [0, 0]
        for turn in range(400):
            one = fitting_saying(self.chance, "abc")
            other = fitting_saying(self.chance, "bcd")
            told = self.look_between(one, other)
            self.assertIs(told, both_so(one, other)[0] == "paper")
            seen[told] += 1
        self.assertGreater(min(seen), 50)

    def test_any_saying_and_its_not(self):
        seen = 0
        while seen < 40:
            one = fitting_saying(self.chance, "abc")
            if fits(all_cases(plain_form(no(one)))):
                self.assertIs(self.look_between(one, no(one)), True)
                seen += 1

    def test_a_saying_and_its_not_leave_one_answer_alone(self):
        told = between(SPLIT, no(SPLIT))
        for turn in range(100):
            point = random_point(self.chance, "ab")
            self.assertIs(is_so(told, point), value(SPLIT, point))

    def test_four_cases_of_three_rows_each(self):
        def corner(place, sign):
            rows = [least(9 * place + bound, **{name: sign}) for name, bound in zip("abc", (1, 2, 3))]
            return joined("both", rows)

        one = joined("either", [corner(place, 1) for place in range(4)])
        other = joined("either", [corner(place, -1) for place in range(4)])
        self.assertIs(self.look_at(one, other), False)
        self.assertIs(self.look_between(one, other), True)

    def test_what_was_told_may_be_handed_in(self):
        for one, other in APART:
            told = between(one, other)
            point = random_point(self.chance, "abcx")
            self.assertIs(is_so(no(told), point), not is_so(told, point))
            if fits(all_cases(plain_form(told))):
                self.assertIs(self.look_at(told, other), False)
            if fits(all_cases(plain_form(no(told)))):
                self.assertIs(self.look_at(one, no(told)), False)

    def test_the_same_again(self):
        for one, other in APART:
            self.assertEqual(between(one, other), between(one, other))


class Refusals(TwoSayings):
    def test_four_cases_and_three_rows_are_told(self):
        self.assertIs(self.look_at(FOUR, FOUR), True)
        self.assertIs(self.look_at(joined("both", [A, B, C]), joined("both", [A, B, C])), True)

    def test_the_first_then_the_second(self):
        for many in (FIVE, LONGER, no(joined("either", [A, B, C, A])), no(no(FIVE))):
            other = joined("either", [B] * 5)
            for act in (both_so, between, lambda one, other: lets_by(one, other, (((1, 1),),))):
                self.assertEqual(self.refusal(TooMany, act, many, A).saying, many)
                self.assertEqual(self.refusal(TooMany, act, A, many).saying, many)
                self.assertEqual(self.refusal(TooMany, act, many, other).saying, many)
                self.assertEqual(self.refusal(TooMany, act, other, many).saying, other)

    def test_also_where_the_answer_does_not_hang_on_it(self):
        never = both(more(0), FIVE)
        for act in (both_so, between, lambda one, other: lets_by(one, other, ())):
            self.assertEqual(self.refusal(TooMany, act, never, more(0)).saying, never)
            self.assertEqual(self.refusal(TooMany, act, more(0), never).saying, never)

    def test_very_many_cases_are_refused_quickly(self):
        many = joined("both", [either(A, B)] * 59)
        with within(10):
            for act in (both_so, between, lambda one, other: lets_by(one, other, ())):
                self.assertEqual(self.refusal(TooMany, act, A, many).saying, many)

    def test_60_parts_one_within_another(self):
        deep = A
        for turn in range(59):
            deep = no(deep)
        self.assertEqual((count_parts(deep), depth(deep)), (60, 60))
        self.assertIs(self.look_at(deep, A), False)
        self.assertIs(self.look_at(no(deep), A), True)
        self.assertIs(self.look_between(A, deep), True)

    def test_a_refusal_changes_nothing(self):
        ahead = (both_so(SPLIT, LOW), between(SPLIT, LOW), lets_by(SPLIT, LOW, ()))
        kept = copy.deepcopy(FIVE)
        for act in (both_so, between, lambda one, other: lets_by(one, other, ())):
            self.refusal(TooMany, act, SPLIT, FIVE)
        self.assertEqual(FIVE, kept)
        self.assertEqual((both_so(SPLIT, LOW), between(SPLIT, LOW), lets_by(SPLIT, LOW, ())), ahead)


if __name__ == "__main__":
    unittest.main()
