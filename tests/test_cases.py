"""Points 8 and 9, and 1 and 2 for them: contrary rows, plain forms and cases."""

import copy
import unittest

from rowbetween.errors import TooMany
from rowbetween.sayings import cases, contrary, is_so, parts_of, plain
from shapes import (
    LONG, RowCase, all_cases, both, count_parts, deep_saying, depth, either, fits, joined, least, more, no,
    plain_form, random_point, random_row, random_saying, value, within, words,
)

A = least(1, a=1)
B = more(2, b=-3)
C = least(-3, c=2)
D = more(0, a=1, d=-1)


class Contrary(RowCase):
    def test_of_both_sorts(self):
        self.assertEqual(contrary(("least", (("a", 2), ("b", -3)), 5)), ("more", (("a", -2), ("b", 3)), -5))
        self.assertEqual(contrary(("more", (("a", 2), ("b", -3)), -5)), ("least", (("a", -2), ("b", 3)), 5))
        self.assertEqual(contrary(("least", (), 0)), ("more", (), 0))
        self.assertEqual(contrary(("more", (), 1)), ("least", (), -1))

    def test_twice_is_the_row(self):
        for turn in range(200):
            row = random_row(self.chance)
            self.assertEqual(contrary(contrary(row)), row)

    def test_so_just_where_the_row_is_not(self):
        for turn in range(400):
            row = random_row(self.chance)
            point = random_point(self.chance)
            self.assertIs(is_so(contrary(row), point), not is_so(row, point))
        self.assertIs(is_so(contrary(A), {"a": (1, 1)}), False)
        self.assertIs(is_so(contrary(more(1, a=1)), {"a": (1, 1)}), True)

    def test_kinds(self):
        told = contrary(A)
        self.assertEqual([type(told), type(told[1]), type(told[1][0])], [tuple] * 3)

    def test_handed_in_is_kept_as_it_was(self):
        row = more(2, a=1, b=-1)
        kept = copy.deepcopy(row)
        self.assertEqual(contrary(row), contrary(row))
        self.assertEqual(row, kept)


class Plain(RowCase):
    def test_of_every_shape(self):
        for word in ("both", "either"):
            other = "either" if word == "both" else "both"
            self.assertEqual(plain((word, A, B)), (word, A, B))
            self.assertEqual(plain((word, no(A), B)), (word, contrary(A), B))
            self.assertEqual(plain((word, A, no(B))), (word, A, contrary(B)))
            self.assertEqual(plain(no((word, A, B))), (other, contrary(A), contrary(B)))
            self.assertEqual(plain(no((word, no(A), B))), (other, A, contrary(B)))
        self.assertEqual(plain(A), A)
        self.assertEqual(plain(no(A)), contrary(A))
        self.assertEqual(plain(no(no(B))), B)
        self.assertEqual(plain(no(no(no(B)))), contrary(B))
        self.assertEqual(plain(no(no(both(no(A), B)))), both(contrary(A), B))

    def test_not_over_both_in_either(self):
        self.assertEqual(
            plain(no(both(either(A, no(B)), no(both(C, D))))),
            either(both(contrary(A), B), both(C, D)),
        )

    def test_word_by_word(self):
        for turn in range(600):
            saying = random_saying(self.chance, self.chance.randint(1, 40))
            told = plain(saying)
            self.assertEqual(told, plain_form(saying))
            self.assertNotIn("not", words(told))
            self.assertEqual(plain(told), told)
            self.assertEqual(plain(no(told)), plain(no(saying)))

    def test_so_just_where_the_saying_is(self):
        for turn in range(300):
            saying = random_saying(self.chance, self.chance.randint(1, 20))
            point = random_point(self.chance)
            self.assertIs(is_so(plain(saying), point), value(saying, point))

    def test_not_at_every_depth(self):
        saying = A
        for turn in range(30):
            saying = no(either(saying, B)) if turn % 2 else no(both(C, saying))
        self.assertEqual(depth(saying), 61)
        self.assertEqual(plain(saying), plain_form(saying))

    def test_400_parts_60_deep_10000_figures(self):
        saying = deep_saying(lambda: self.chance.choice([least, more])(-LONG, a=LONG, b=1 - LONG, c=7, d=LONG + 1))
        self.assertEqual((count_parts(saying), depth(saying)), (400, 60))
        for whole in (saying, no(saying)):
            with within(30):
                told = plain(whole)
            self.assertTrue(told == plain_form(whole))
            self.assertNotIn("not", words(told))
            self.assertEqual(parts_of(told), 381)

    def test_handed_in_is_kept_as_it_was(self):
        saying = no(both(A, no(either(B, no(C)))))
        kept = copy.deepcopy(saying)
        self.assertEqual(plain(saying), plain(saying))
        self.assertEqual(saying, kept)


class Cases(RowCase):
    def test_of_every_shape(self):
        self.assertEqual(cases(A), [[A]])
        self.assertEqual(cases(least(0)), [[least(0)]])
        self.assertEqual(cases(no(A)), [[contrary(A)]])
        self.assertEqual(cases(either(A, B)), [[A], [B]])
        self.assertEqual(cases(both(A, B)), [[A, B]])
        self.assertEqual(cases(no(either(A, B))), [[contrary(A), contrary(B)]])
        self.assertEqual(cases(no(both(A, B))), [[contrary(A)], [contrary(B)]])
        self.assertEqual(cases(no(no(both(A, B)))), [[A, B]])

    def test_in_order(self):
        self.assertEqual(cases(both(either(A, B), either(C, D))), [[A, C], [A, D], [B, C], [B, D]])
        self.assertEqual(cases(both(either(A, B), C)), [[A, C], [B, C]])
        self.assertEqual(cases(both(A, either(B, C))), [[A, B], [A, C]])
        self.assertEqual(cases(either(both(A, B), either(C, both(D, A)))), [[A, B], [C], [D, A]])
        self.assertEqual(cases(both(both(C, B), A)), [[C, B, A]])
        self.assertEqual(cases(both(either(both(A, B), C), either(D, B))), [[A, B, D], [A, B, B], [C, D], [C, B]])

    def test_a_row_that_stands_twice_is_told_twice(self):
        self.assertEqual(cases(both(A, A)), [[A, A]])
        self.assertEqual(cases(either(A, A)), [[A], [A]])
        self.assertEqual(cases(both(both(A, A), A)), [[A, A, A]])
        self.assertEqual(cases(both(either(A, B), either(A, B))), [[A, A], [A, B], [B, A], [B, B]])

    def test_four_cases_are_told_and_five_refused(self):
        four = joined("either", [A, B, C, D])
        self.assertEqual(cases(four), [[A], [B], [C], [D]])
        five = joined("either", [A, B, C, D, A])
        self.assertEqual(self.refusal(TooMany, cases, five).saying, five)
        same = joined("either", [A] * 5)
        self.assertEqual(self.refusal(TooMany, cases, same).saying, same)
        six = both(either(A, B), joined("either", [A, B, C]))
        self.assertEqual(self.refusal(TooMany, cases, six).saying, six)

    def test_three_rows_are_told_and_four_refused(self):
        self.assertEqual(cases(joined("both", [A, B, C])), [[A, B, C]])
        for four in (joined("both", [A, B, C, D]), joined("both", [A] * 4), both(both(A, B), both(C, D))):
            self.assertEqual(self.refusal(TooMany, cases, four).saying, four)

    def test_four_cases_of_three_rows(self):
        three = joined("both", [A, B, C])
        self.assertEqual(cases(joined("either", [three] * 4)), [[A, B, C]] * 4)

    def test_one_longer_case_among_short_ones(self):
        for saying in (
            either(A, joined("both", [A, B, C, D])),
            either(joined("both", [A, B, C, D]), A),
            both(either(both(A, B), C), either(D, both(A, B))),
        ):
            self.assertEqual(self.refusal(TooMany, cases, saying).saying, saying)

    def test_not_turns_the_counts(self):
        wide = no(joined("both", [A, B, C, D]))
        self.assertEqual(cases(wide), [[contrary(A)], [contrary(B)], [contrary(C)], [contrary(D)]])
        self.assertEqual(cases(no(wide[1][1])), [[contrary(A)], [contrary(B)], [contrary(C)]])
        long = no(joined("either", [A, B, C, D]))
        self.assertEqual(self.refusal(TooMany, cases, long).saying, long)
        eight = joined("both", [either(A, B)] * 3)
        self.assertEqual(self.refusal(TooMany, cases, eight).saying, eight)
        self.assertEqual(cases(no(eight)), [[contrary(A), contrary(B)]] * 3)

    def test_the_whole_saying_is_refused_not_its_part(self):
        part = joined("either", [A, B, C, D, A])
        for saying in (both(A, part), either(part, A), no(no(part)), no(both(no(A), no(part)))):
            self.assertEqual(self.refusal(TooMany, cases, saying).saying, saying)

    def test_as_the_document_tells(self):
        told = 0
        for turn in range(3000):
            saying = random_saying(self.chance, self.chance.randint(1, 24))
            whole = all_cases(plain_form(saying))
            if fits(whole):
                told += 1
                self.assertEqual(cases(saying), whole)
            else:
                self.assertEqual(self.refusal(TooMany, cases, saying).saying, saying)
        self.assertTrue(500 < told < 2500, told)

    def test_so_just_where_one_case_is(self):
        for turn in range(600):
            saying = random_saying(self.chance, self.chance.randint(1, 6))
            point = random_point(self.chance)
            if fits(all_cases(plain_form(saying))):
                one = any(all(is_so(row, point) for row in case) for case in cases(saying))
                self.assertIs(one, is_so(saying, point))

    def test_very_many_cases_are_refused_quickly(self):
        many = joined("both", [either(A, B)] * 100)
        self.assertEqual(count_parts(many), 399)
        turned = no(joined("either", [both(A, B)] * 99))
        level = either(A, B)
        for turn in range(6):
            level = both(level, level)
        with within(10):
            for saying in (joined("both", [either(A, B)] * 59), many, turned, level, deep_saying(lambda: A)):
                self.assertEqual(self.refusal(TooMany, cases, saying).saying, saying)

    def test_numbers_of_60_figures(self):
        row = least(10 ** 60 - 1, a=-10 ** 60 + 1)
        self.assertEqual(cases(no(both(row, A))), [[more(1 - 10 ** 60, a=10 ** 60 - 1)], [contrary(A)]])


class Own(RowCase):
    def test_what_was_told_may_be_changed(self):
        for saying in (A, both(A, B), either(A, both(B, B)), both(either(A, A), either(B, B)), no(both(A, B))):
            kept = copy.deepcopy(saying)
            first = cases(saying)
            ahead = copy.deepcopy(first)
            self.assertEqual([type(first)] + [type(case) for case in first], [list] * (1 + len(first)))
            self.assertEqual(len({id(case) for case in first}), len(first))
            first[0].append("more")
            first[-1][0] = None
            first.append([])
            self.assertEqual(cases(saying), ahead)
            self.assertEqual(saying, kept)

    def test_nothing_asked_later_changes_what_was_told(self):
        first = cases(both(either(A, B), C))
        second = cases(both(either(A, B), C))
        second[0].clear()
        cases(either(A, B))
        self.assertEqual(first, [[A, C], [B, C]])

    def test_a_refusal_changes_nothing(self):
        saying = both(either(A, B), C)
        many = joined("either", [saying] * 5)
        kept = copy.deepcopy(many)
        ahead = cases(saying)
        self.assertEqual(self.refusal(TooMany, cases, many).saying, kept)
        self.assertEqual(many, kept)
        self.assertEqual(cases(saying), ahead)
        self.assertEqual(self.refusal(TooMany, cases, many).saying, kept)


if __name__ == "__main__":
    unittest.main()
