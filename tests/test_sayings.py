"""Points 5, 6 and 7, and 1 and 2 for them: names, parts, sums, and where sayings are so."""

import copy
import unittest

from rowbetween.errors import NoName
from rowbetween.fractions import plus
from rowbetween.sayings import is_so, names_of, parts_of, total
from shapes import (
    LONG, RowCase, both, count_parts, deep_saying, depth, either, least, lowest, more, no, random_point,
    random_saying, value, within,
)

TRUE = least(0)
FALSE = more(0)


class Names(RowCase):
    def test_of_a_row(self):
        self.assertEqual(names_of(least(1, b=2, d=-1)), ["b", "d"])
        self.assertEqual(names_of(more(1, z=2)), ["z"])
        self.assertEqual(names_of(least(3)), [])

    def test_letters_order_each_once(self):
        saying = both(no(least(1, z=1, m=1)), either(more(2, m=5), both(TRUE, least(0, a=-1, z=3))))
        self.assertEqual(names_of(saying), ["a", "m", "z"])

    def test_all_parts_are_looked_at(self):
        for word in ("both", "either"):
            self.assertEqual(names_of((word, least(0, b=1), least(0, a=1))), ["a", "b"])
            self.assertEqual(names_of((word, TRUE, least(0, a=1))), ["a"])
            self.assertEqual(names_of((word, least(0, a=1), TRUE)), ["a"])
        self.assertEqual(names_of(no(no(least(0, c=1)))), ["c"])

    def test_a_list_that_is_the_askers_own(self):
        saying = both(least(1, a=1), least(1, b=1))
        told = names_of(saying)
        self.assertIs(type(told), list)
        told.append("c")
        told[0] = "x"
        self.assertEqual(names_of(saying), ["a", "b"])


class Parts(RowCase):
    def test_of_every_shape(self):
        row = least(1, a=1)
        self.assertEqual(parts_of(row), 1)
        self.assertEqual(parts_of(TRUE), 1)
        self.assertEqual(parts_of(no(row)), 2)
        self.assertEqual(parts_of(no(no(row))), 3)
        self.assertEqual(parts_of(both(row, more(1, b=1))), 3)
        self.assertEqual(parts_of(either(no(row), both(row, TRUE))), 6)

    def test_counted_as_often_as_they_stand(self):
        saying = least(1, a=1)
        for turn in range(7):
            saying = both(saying, saying)
        self.assertEqual(parts_of(saying), 255)

    def test_any_saying(self):
        for parts in range(1, 60):
            self.assertEqual(parts_of(random_saying(self.chance, parts)), parts)


class Totals(RowCase):
    def test_by_hand(self):
        point = {"a": (1, 2), "b": (-2, 3), "c": (5, 1)}
        self.assertEqual(total((("a", 3),), point), (3, 2))
        self.assertEqual(total((("a", 2), ("b", 3)), point), (-1, 1))
        self.assertEqual(total((("a", 4), ("b", 3)), point), (0, 1))
        self.assertEqual(total((("a", -1), ("b", -1), ("c", 2)), point), (61, 6))

    def test_no_terms(self):
        self.assertEqual(total((), {}), (0, 1))
        self.assertEqual(total((), {"a": (1, 2)}), (0, 1))

    def test_lowest_terms(self):
        self.assertEqual(total((("a", 2), ("b", 2)), {"a": (1, 4), "b": (1, 4)}), (1, 1))
        self.assertEqual(total((("a", 1), ("b", 1)), {"a": (1, 6), "b": (1, 10)}), (4, 15))

    def test_the_first_missing_name(self):
        terms = (("b", 1), ("c", 1), ("k", 1))
        self.assertEqual(self.refusal(NoName, total, terms, {}).name, "b")
        self.assertEqual(self.refusal(NoName, total, terms, {"a": (1, 1), "k": (1, 1)}).name, "b")
        self.assertEqual(self.refusal(NoName, total, terms, {"b": (1, 1), "d": (1, 1)}).name, "c")
        self.assertEqual(self.refusal(NoName, total, terms, {"b": (1, 1), "c": (1, 1)}).name, "k")

    def test_other_names_are_passed_by(self):
        self.assertEqual(total((("b", 2),), {"a": (1, 3), "b": (1, 3), "z": (9, 7)}), (2, 3))

    def test_long_numbers(self):
        point = {"a": (1, LONG), "b": (LONG - 1, LONG), "c": (10 ** 60 - 1, 1)}
        with within(30):
            self.assertTrue(total((("a", 1), ("b", 1)), point) == (1, 1))
            self.assertTrue(total((("a", 10 ** 59),), point) == (1, LONG // 10 ** 59))
            self.assertTrue(total((("c", 10 ** 60 - 1),), point) == ((10 ** 60 - 1) ** 2, 1))

    def test_four_names_of_10000_figures(self):
        point = {}
        for name in "abcd":
            point[name] = lowest(self.chance.randrange(LONG, 10 * LONG), self.chance.randrange(LONG, 10 * LONG))
        with within(30):
            whole = total((("a", 1), ("b", 1), ("c", 1), ("d", 1)), point)
            rest = total((("a", -1), ("b", -1), ("c", -1)), point)
            self.assertTrue(plus(whole, rest) == point["d"])

    def test_handed_in_is_kept_as_it_was(self):
        point = {"b": (1, 3), "a": (1, 2)}
        before = copy.deepcopy(point)
        self.assertEqual(total((("a", 2), ("b", 1)), point), (4, 3))
        self.refusal(NoName, total, (("a", 2), ("c", 1)), point)
        self.assertEqual(list(point.items()), list(before.items()))
        self.assertEqual(total((("a", 2), ("b", 1)), point), (4, 3))


class Rows(RowCase):
    def test_least_at_below_and_above_the_bound(self):
        row = least(2, a=3)
        self.assertIs(is_so(row, {"a": (2, 3)}), True)
        self.assertIs(is_so(row, {"a": (2 * 10 ** 50 - 1, 3 * 10 ** 50)}), False)
        self.assertIs(is_so(row, {"a": (2 * 10 ** 50 + 1, 3 * 10 ** 50)}), True)

    def test_more_at_below_and_above_the_bound(self):
        row = more(2, a=3)
        self.assertIs(is_so(row, {"a": (2, 3)}), False)
        self.assertIs(is_so(row, {"a": (2 * 10 ** 50 - 1, 3 * 10 ** 50)}), False)
        self.assertIs(is_so(row, {"a": (2 * 10 ** 50 + 1, 3 * 10 ** 50)}), True)

    def test_bounds_below_nought(self):
        point = {"a": (-5, 2), "b": (1, 2)}
        self.assertIs(is_so(least(-2, a=1, b=1), point), True)
        self.assertIs(is_so(more(-2, a=1, b=1), point), False)
        self.assertIs(is_so(more(-3, a=1, b=1), point), True)
        self.assertIs(is_so(least(-1, a=1, b=1), point), False)

    def test_no_terms(self):
        self.assertIs(is_so(least(0), {}), True)
        self.assertIs(is_so(more(0), {}), False)
        self.assertIs(is_so(least(1), {}), False)
        self.assertIs(is_so(more(-1), {}), True)

    def test_each_name_has_its_own_number(self):
        point = {"a": (1, 1), "b": (10, 1), "c": (100, 1)}
        self.assertIs(is_so(least(321, a=1, b=2, c=3), point), True)
        self.assertIs(is_so(more(321, a=1, b=2, c=3), point), False)


class Put(RowCase):
    def test_not_both_either(self):
        for one in (TRUE, FALSE):
            first = one == TRUE
            self.assertIs(is_so(no(one), {}), not first)
            self.assertIs(is_so(no(no(one)), {}), first)
            for other in (TRUE, FALSE):
                second = other == TRUE
                self.assertIs(is_so(both(one, other), {}), first and second)
                self.assertIs(is_so(either(one, other), {}), first or second)

    def test_as_python_reckons(self):
        for turn in range(600):
            saying = random_saying(self.chance, self.chance.randint(1, 25))
            point = random_point(self.chance)
            self.assertIs(is_so(saying, point), value(saying, point), (saying, point))


class Missing(RowCase):
    def test_the_first_in_the_letters_order(self):
        saying = both(least(1, d=1), either(no(more(1, c=1)), least(0, b=1)))
        self.assertEqual(self.refusal(NoName, is_so, saying, {}).name, "b")
        self.assertEqual(self.refusal(NoName, is_so, saying, {"b": (0, 1)}).name, "c")
        self.assertEqual(self.refusal(NoName, is_so, saying, {"d": (0, 1), "c": (0, 1)}).name, "b")
        self.assertEqual(self.refusal(NoName, is_so, saying, {"b": (0, 1), "c": (0, 1)}).name, "d")
        self.assertEqual(self.refusal(NoName, is_so, least(1, a=1, b=1), {"b": (0, 1)}).name, "a")

    def test_whether_the_answer_hangs_on_it_or_not(self):
        row = least(1, a=1)
        for saying in (either(TRUE, row), either(row, TRUE), both(FALSE, row), both(row, FALSE), no(both(FALSE, row))):
            self.assertEqual(self.refusal(NoName, is_so, saying, {"b": (0, 1)}).name, "a")

    def test_other_names_are_passed_by(self):
        self.assertIs(is_so(least(1, b=1), {"a": (0, 1), "b": (1, 1), "z": (0, 1)}), True)

    def test_a_refusal_changes_nothing(self):
        saying = either(least(1, b=1), least(1, a=1))
        point = {"b": (1, 1)}
        self.refusal(NoName, is_so, saying, point)
        self.assertEqual(point, {"b": (1, 1)})
        self.assertIs(is_so(saying, {"b": (1, 1), "a": (0, 1)}), True)
        self.assertEqual(self.refusal(NoName, is_so, saying, point).name, "a")

    def test_handed_in_is_kept_as_it_was(self):
        saying = no(both(least(1, a=1), more(2, b=-1)))
        point = {"z": (7, 1), "b": (1, 3), "a": (1, 2)}
        kept = (copy.deepcopy(saying), copy.deepcopy(list(point.items())))
        for turn in range(3):
            self.assertIs(is_so(saying, point), True)
        self.assertEqual((saying, list(point.items())), kept)
        point["a"] = (-1, 2)
        self.assertIs(is_so(least(1, a=-2), point), True)
        self.assertIs(is_so(least(2, a=-2), point), False)


class Large(RowCase):
    def long_row(self):
        def number():
            return self.chance.choice([1, -1]) * self.chance.randrange(LONG, 10 * LONG)

        return (self.chance.choice(["least", "more"]), tuple((name, number()) for name in "abcd"), number())

    def test_400_parts_60_deep(self):
        saying = deep_saying(lambda: least(self.chance.randint(-2, 2), a=1, b=-1))
        self.assertEqual((count_parts(saying), depth(saying)), (400, 60))
        self.assertEqual(parts_of(saying), 400)
        self.assertEqual(names_of(saying), ["a", "b"])
        self.assertEqual(parts_of(no(saying)), 401)
        for turn in range(20):
            point = random_point(self.chance)
            self.assertIs(is_so(saying, point), value(saying, point))
            self.assertIs(is_so(no(saying), point), not value(saying, point))

    def test_one_not_within_another(self):
        saying = least(1, a=1)
        for turn in range(59):
            saying = no(saying)
        self.assertEqual((parts_of(saying), names_of(saying)), (60, ["a"]))
        self.assertIs(is_so(saying, {"a": (1, 1)}), False)
        self.assertIs(is_so(no(saying), {"a": (1, 1)}), True)

    def test_10000_figures_400_parts(self):
        saying = deep_saying(self.long_row)
        point = random_point(self.chance, "abcd", 9)
        self.assertEqual((parts_of(saying), names_of(saying)), (400, ["a", "b", "c", "d"]))
        self.assertIs(is_so(saying, point), value(saying, point))

    def test_10000_figures_in_the_point_too(self):
        point = {
            "a": lowest(self.chance.randrange(LONG, 10 * LONG), 2 ** 33000),
            "b": lowest(self.chance.randrange(LONG, 10 * LONG), 3 ** 20000),
            "c": (-LONG, 1),
            "d": (1, LONG),
        }
        saying = deep_saying(self.long_row)
        with within(60):
            told = is_so(saying, point)
            self.assertIs(is_so(no(saying), point), not told)
            self.assertIs(told, value(saying, point))

    def test_at_the_bound_with_10000_figures(self):
        point = {"a": (10 * LONG - 1, LONG), "b": (1, LONG)}
        at = least(10 * LONG, a=LONG, b=LONG)
        self.assertIs(is_so(at, point), True)
        self.assertIs(is_so(("more",) + at[1:], point), False)
        self.assertIs(is_so(least(10 * LONG, a=LONG, b=LONG - 1), point), False)
        self.assertIs(is_so(more(10 * LONG, a=LONG, b=LONG + 1), point), True)


if __name__ == "__main__":
    unittest.main()
