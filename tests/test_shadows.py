"""Points 14 and 15, and 1, 2, 3, 7 and 9 for them: shadows on some names, and points filled up."""

import copy
import itertools
import unittest

from rowbetween.errors import NoName, TooMany
from rowbetween.sayings import is_so, names_of
from rowbetween.shadows import filled, shadow
from shapes import (
    LONG, RowCase, all_cases, both, either, fits, fitting_saying, joined, least, lowest, more, no, plain_form,
    put_into, random_point, value, within,
)

A = least(1, a=1)
B = more(2, b=-3)
C = least(-3, c=2)
FIVE = joined("either", [A, B, C, A, B])
LONGER = joined("both", [A, B, C, A])

# a is over b, and b is over c or c is over 5.
STEPS = both(more(0, a=1, b=-1), either(least(0, b=1, c=-1), more(5, c=1)))


def some_names(chance, saying):
    """Some of the names of a saying, and maybe others, in any order."""
    names = [name for name in names_of(saying) + ["q"] if chance.random() < 0.5]
    chance.shuffle(names)
    return names


class Shaded(RowCase):
    def can_be_filled(self, saying, names, point):
        """Whether the point can be filled up, found out without the functions that are asked."""
        kept = {name: point[name] for name in names_of(saying) if name in names}
        return self.somewhere(put_into(saying, kept))

    def look_at_filled(self, saying, names, point):
        """Ask for a point filled up, look through it, and tell whether there is one."""
        kept = copy.deepcopy((saying, names, list(point.items())))
        told = filled(saying, names, point)
        self.assertEqual((saying, names, list(point.items())), kept)
        if told is None:
            return False
        self.is_point(told, names_of(saying))
        self.assertTrue(value(saying, told), (saying, names, point, told))
        for name in told:
            if name in names:
                self.assertEqual(told[name], point[name])
        return True

    def look_at_shadow(self, saying, names):
        """Ask for a shadow, look at its form, and tell it."""
        kept = copy.deepcopy((saying, names))
        told = shadow(saying, names)
        self.assertEqual((saying, names), kept)
        self.is_saying(told)
        self.assertLessEqual(set(names_of(told)), set(names) & set(names_of(saying)))
        return told


class Shadow(Shaded):
    def test_of_a_row(self):
        told = self.look_at_shadow(least(1, a=1, b=-1), ["a"])
        self.assertIs(is_so(told, {"a": (-100, 1)}), True)
        told = self.look_at_shadow(least(2, a=3), ["a"])
        for number, is_in in (((2, 3), True), ((1, 1), True), ((3, 5), False), ((-1, 1), False)):
            self.assertIs(is_so(told, {"a": number}), is_in)

    def test_names_that_go(self):
        # b lies above a and below c, so that c is over a, or at a.
        for low, high in itertools.product((least, more), repeat=2):
            at_end = low == high == least
            told = self.look_at_shadow(both(low(0, b=2, a=-2), high(0, c=3, b=-3)), ["a", "c"])
            for a, c, is_in in ((0, 1, True), (0, 0, at_end), (1, 0, False)):
                self.assertIs(is_so(told, {"a": (a, 2), "c": (c, 2)}), is_in)

    def test_ends_of_other_steps(self):
        told = self.look_at_shadow(both(least(1, a=2, x=3), least(1, a=5, x=-7)), ["a"])
        for number, is_in in (((10, 29), True), ((9, 29), False), ((1, 1), True)):
            self.assertIs(is_so(told, {"a": number}), is_in)

    def test_names_all_kept_or_all_left_out(self):
        for turn in range(60):
            point = random_point(self.chance)
            self.assertIs(is_so(self.look_at_shadow(STEPS, ["c", "a", "b"]), point), value(STEPS, point))
        self.assertIs(is_so(self.look_at_shadow(STEPS, []), {}), True)
        for never in (more(0), both(least(1, a=1), least(0, a=-1)), both(STEPS, least(1)), no(least(0))):
            self.assertIs(is_so(self.look_at_shadow(never, []), {}), False)
        for always in (least(0), more(3, a=1), either(more(0), least(1, a=1, b=1)), no(more(0))):
            self.assertIs(is_so(self.look_at_shadow(always, []), {}), True)

    def test_names_that_do_not_stand_in_the_saying(self):
        for names in (["z"], ["z", "a"], ["a", "z", "y"], ["y", "z"]):
            told = self.look_at_shadow(STEPS, names)
            fewer = shadow(STEPS, [name for name in names if name == "a"])
            self.assertNotIn("z", names_of(told))
            for number in range(-9, 9):
                point = {"a": (number, 2)}
                self.assertIs(is_so(told, point), is_so(fewer, point))
        self.assertEqual(names_of(shadow(least(0), ["a", "b"])), [])

    def test_not_is_looked_through(self):
        told = self.look_at_shadow(no(either(least(1, a=1, b=1), more(-1, b=1))), ["a"])
        self.assertIs(is_so(told, {"a": (100, 1)}), True)
        told = self.look_at_shadow(no(both(least(1, a=1), least(0, b=1))), ["a"])
        self.assertIs(is_so(told, {"a": (100, 1)}), True)
        told = self.look_at_shadow(no(either(least(1, a=1), least(0, b=1))), ["a"])
        self.assertIs(is_so(told, {"a": (1, 1)}), False)
        self.assertIs(is_so(told, {"a": (99, 100)}), True)

    def test_one_case_alone_lets_the_point_be_filled(self):
        saying = joined("either", [both(least(place, a=1), least(-place, a=-1)) for place in (1, 2, 3, 5)])
        told = self.look_at_shadow(both(more(0, x=1), saying[2]), ["a"])
        self.assertIs(is_so(told, {"a": (5, 1)}), True)
        told = self.look_at_shadow(saying, ["a"])
        for number in range(-2, 14):
            self.assertIs(is_so(told, {"a": lowest(number, 2)}), number in (2, 4, 6, 10))

    def test_so_just_where_the_point_can_be_filled(self):
        seen = [0, 0]
        for turn in range(250):
            saying = fitting_saying(self.chance, self.chance.choice(["ab", "abc", "abcd"]))
            names = some_names(self.chance, saying)
            told = self.look_at_shadow(saying, names)
            for turn in range(4):
                point = random_point(self.chance, "abcdq", 4)
                is_in = self.can_be_filled(saying, names, point)
                self.assertIs(is_so(told, point), is_in, (saying, names, point))
                self.assertIs(self.look_at_filled(saying, names, point), is_in, (saying, names, point))
                seen[is_in] += 1
        self.assertGreater(min(seen), 100)

    def test_four_cases_of_three_rows_with_60_figures(self):
        def case():
            return joined("both", [self.full_row("abcd") for turn in range(3)])

        saying = joined("either", [case() for turn in range(4)])
        for size in range(5):
            for names in itertools.combinations("abcd", size):
                told = self.look_at_shadow(saying, list(names))
                point = random_point(self.chance, "abcd")
                self.assertIs(is_so(told, point), self.can_be_filled(saying, list(names), point))

    def test_what_was_told_may_be_handed_in(self):
        for turn in range(60):
            saying = fitting_saying(self.chance, "abcd")
            told = shadow(saying, ["a", "b"])
            self.assertTrue(fits(all_cases(plain_form(told))))
            again = self.look_at_shadow(told, ["b"])
            point = random_point(self.chance, "ab")
            self.assertIs(is_so(no(told), point), not is_so(told, point))
            self.assertIs(is_so(again, point), self.can_be_filled(saying, ["b"], point))

    def test_the_same_again(self):
        names = ["c", "a"]
        first = shadow(STEPS, names)
        names.append("b")
        self.assertEqual(shadow(STEPS, ["c", "a"]), first)
        self.assertEqual(names, ["c", "a", "b"])


class Filled(Shaded):
    def test_by_hand(self):
        self.assertEqual(filled(both(least(0, a=2, b=-1), least(0, a=-2, b=1)), ["a"], {"a": (3, 5)}),
                         {"a": (3, 5), "b": (6, 5)})
        self.assertIs(filled(both(least(0, a=2, b=-1), least(1, a=-2, b=1)), ["a"], {"a": (3, 5)}), None)

    def test_open_and_closed(self):
        saying = both(least(0, b=1, a=-1), least(0, c=1, b=-1))
        strict = both(more(0, b=1, a=-1), saying[2])
        point = {"a": (1, 7), "c": (1, 7)}
        self.assertEqual(filled(saying, ["a", "c"], point), {"a": (1, 7), "b": (1, 7), "c": (1, 7)})
        self.assertIs(filled(strict, ["a", "c"], point), None)
        point = {"a": (1, 7), "c": lowest(10 ** 9 + 1, 7 * 10 ** 9)}
        self.assertIs(self.look_at_filled(strict, ["c", "a"], point), True)

    def test_all_names_kept(self):
        point = {"c": (1, 2), "b": (1, 1), "a": (3, 2)}
        self.assertEqual(filled(STEPS, ["a", "b", "c"], point), point)
        self.assertIs(filled(STEPS, ["a", "b", "c"], {"a": (1, 1), "b": (1, 1), "c": (0, 1)}), None)
        self.assertEqual(filled(least(0), [], {}), {})
        self.assertIs(filled(more(0), [], {}), None)

    def test_no_name_kept(self):
        for names in ([], ["z"], ["z", "y"]):
            self.assertIs(self.look_at_filled(STEPS, names, {}), True)
            self.assertIs(self.look_at_filled(STEPS, names, {"a": (-50, 1), "z": (1, 1)}), True)
        self.assertIs(filled(both(least(1, a=1), least(0, a=-1)), [], {}), None)

    def test_whatever_else_the_point_has_is_passed_by(self):
        point = {"a": (0, 1), "b": (99, 1), "q": (7, 1)}
        told = filled(STEPS, ["a", "q"], point)
        self.assertEqual(sorted(told), ["a", "b", "c"])
        self.assertEqual(told["a"], (0, 1))
        self.assertTrue(value(STEPS, told))
        self.assertEqual(told, filled(STEPS, ["a"], {"a": (0, 1)}))

    def test_names_of_other_cases_are_there_too(self):
        told = filled(joined("either", [more(0, a=1), B, C]), ["a"], {"a": (1, 1)})
        self.is_point(told, "abc")
        told = filled(joined("either", [more(0, a=1), B, C]), ["a"], {"a": (0, 1)})
        self.is_point(told, "abc")
        self.assertEqual(told["a"], (0, 1))

    def test_the_first_missing_name(self):
        saying = both(more(0, a=1, b=1), more(0, c=1, d=1))
        for names, point, missing in (
            (["d", "c", "b", "a"], {}, "a"),
            (["d", "c", "b"], {"a": (1, 1)}, "b"),
            (["d", "z", "c"], {"a": (1, 1)}, "c"),
            (["d", "a", "c", "b"], {"a": (1, 1), "b": (1, 1), "d": (1, 1)}, "c"),
            (["z", "d"], {"z": (1, 1)}, "d"),
        ):
            self.assertEqual(self.refusal(NoName, filled, saying, names, point).name, missing)

    def test_a_name_is_missing_whether_the_answer_hangs_on_it_or_not(self):
        for saying in (both(more(0), A), either(least(0), A), both(A, more(0))):
            self.assertEqual(self.refusal(NoName, filled, saying, ["a"], {"b": (1, 1)}).name, "a")

    def test_names_that_do_not_stand_in_the_saying_are_not_missing(self):
        self.assertEqual(filled(least(1, a=1), ["z", "a"], {"a": (1, 1)}), {"a": (1, 1)})
        self.assertEqual(filled(least(0), ["z", "a"], {}), {})

    def test_long_numbers(self):
        point = {}
        for name in "abc":
            point[name] = lowest(self.chance.randrange(LONG, 10 * LONG), self.chance.randrange(LONG, 10 * LONG))
        top = 10 ** 60 - 1
        near = both(more(0, d=top, a=-top, b=3, c=7), more(-1, d=-top, a=top, b=-3, c=-7))
        never = both(near, least(0, a=top, d=-top, b=-3, c=-7))
        just = both(least(0, d=top, a=-1, b=-1), least(0, d=-top, a=1, b=1))
        with within(60):
            self.assertTrue(value(near, filled(near, ["a", "b", "c"], point)))
            self.assertIs(filled(never, ["a", "b", "c"], point), None)
            told = filled(just, ["a", "b"], point)
            self.assertTrue(told["a"] == point["a"] and told["b"] == point["b"] and sorted(told) == ["a", "b", "d"])
            self.assertTrue(value(just, told))

    def test_the_same_again_and_the_askers_own(self):
        point = {"a": (0, 1)}
        first = filled(STEPS, ["a"], point)
        ahead = dict(first)
        first["b"] = (99, 1)
        first["q"] = (99, 1)
        self.assertEqual(filled(STEPS, ["a"], point), ahead)
        second = filled(STEPS, ["a"], point)
        point["a"] = (7, 1)
        self.assertEqual(second, ahead)
        self.assertEqual(filled(STEPS, ["a"], point)["a"], (7, 1))
        whole = {"a": (3, 2), "b": (1, 1), "c": (1, 2)}
        filled(STEPS, ["a", "b", "c"], whole)["a"] = (0, 1)
        self.assertEqual(whole["a"], (3, 2))


class Refusals(Shaded):
    def test_too_many(self):
        for many in (FIVE, LONGER, no(no(FIVE)), both(more(0), FIVE), no(joined("either", [A, B, C, A]))):
            self.assertEqual(self.refusal(TooMany, shadow, many, ["a"]).saying, many)
            self.assertEqual(self.refusal(TooMany, shadow, many, []).saying, many)
            self.assertEqual(self.refusal(TooMany, filled, many, ["a"], {"a": (1, 1)}).saying, many)
            self.assertEqual(self.refusal(TooMany, filled, many, ["z"], {}).saying, many)

    def test_too_many_comes_ahead_of_a_missing_name(self):
        self.assertEqual(self.refusal(TooMany, filled, FIVE, ["a", "b"], {}).saying, FIVE)
        self.assertEqual(self.refusal(TooMany, filled, LONGER, ["c"], {"a": (1, 1)}).saying, LONGER)

    def test_very_many_cases_are_refused_quickly(self):
        many = joined("both", [either(A, B)] * 59)
        with within(10):
            self.assertEqual(self.refusal(TooMany, shadow, many, ["a"]).saying, many)
            self.assertEqual(self.refusal(TooMany, filled, many, ["a"], {}).saying, many)

    def test_a_refusal_changes_nothing(self):
        names = ["c", "a"]
        point = {"c": (1, 1)}
        ahead = shadow(STEPS, names)
        self.refusal(NoName, filled, STEPS, names, point)
        self.refusal(TooMany, filled, FIVE, names, point)
        self.refusal(TooMany, shadow, FIVE, names)
        self.assertEqual((names, point), (["c", "a"], {"c": (1, 1)}))
        self.assertEqual(shadow(STEPS, names), ahead)
        self.assertEqual(self.refusal(NoName, filled, STEPS, names, point).name, "a")
        self.assertIs(self.look_at_filled(STEPS, ["c"], point), True)


if __name__ == "__main__":
    unittest.main()
