"""Point 10, and 1 and 2 for it: rows together, met by a point or not, and rows added up."""

import copy
import unittest

from rowbetween.sayings import is_so
from rowbetween.solving import added, met
from shapes import LONG, RowCase, least, more, random_row, shows, value, within


class Added(RowCase):
    def test_by_hand(self):
        rows = [least(3, a=2, b=-1), more(1, b=1, c=4), least(-5, a=-1)]
        self.assertEqual(added(rows, (1, 1, 0)), more(4, a=2, c=4))
        self.assertEqual(added(rows, (2, 1, 3)), more(-8, a=1, b=-1, c=4))
        self.assertEqual(added(rows, (1, 0, 1)), least(-2, a=1, b=-1))
        self.assertEqual(added(rows, (0, 3, 0)), more(3, b=3, c=12))

    def test_more_only_where_it_has_a_weight_above_nought(self):
        rows = [more(1, a=1), least(2, a=1)]
        self.assertEqual(added(rows, (0, 1)), least(2, a=1))
        self.assertEqual(added(rows, (1, 0)), more(1, a=1))
        self.assertEqual(added(rows, (1, 7)), more(15, a=8))
        self.assertEqual(added(rows, (0, 0)), least(0))

    def test_names_that_go(self):
        self.assertEqual(added([least(1, a=1, b=1), least(2, a=-1, c=1)], (1, 1)), least(3, b=1, c=1))
        self.assertEqual(added([least(1, a=2), more(0, a=-3)], (3, 2)), more(3))
        self.assertEqual(added([least(1, a=1), least(-1, a=-1)], (1, 1)), least(0))

    def test_names_in_order(self):
        self.assertEqual(added([least(0, z=1), least(0, m=1), least(0, a=1)], (1, 2, 3)), least(0, a=3, m=2, z=1))

    def test_no_rows(self):
        self.assertEqual(added([], ()), least(0))
        self.assertEqual(added([least(5)], (2,)), least(10))

    def test_a_row_twice(self):
        self.assertEqual(added([more(1, a=1), more(1, a=1)], (1, 2)), more(3, a=3))

    def test_kinds_and_that_nothing_is_changed(self):
        rows = [least(3, a=2, b=-1), more(1, b=1)]
        kept = copy.deepcopy(rows)
        told = added(rows, (1, 1))
        self.assertEqual([type(told), type(told[1]), type(told[1][0])], [tuple] * 3)
        rows.append(least(7, z=1))
        self.assertEqual(told, more(4, a=2))
        self.assertEqual(rows[:2], kept)
        self.assertEqual(added(kept, (1, 1)), told)

    def test_long_weights(self):
        told = added([least(2, a=3, b=1), more(-1, a=-3)], (LONG, LONG + 1))
        self.assertTrue(told == more(LONG - 1, a=-3, b=LONG))


class Met(RowCase):
    def test_rows_that_a_point_meets(self):
        for rows in (
            [least(1, a=1)],
            [more(1, a=1)],
            [least(1, a=-1)],
            [least(1, a=1), least(-1, a=-1)],
            [more(1, a=1), more(-2, a=-1)],
            [more(0, a=3), more(-1, a=-3)],
            [least(1, a=1, b=1), least(1, a=1, b=-1), least(-1, a=-1)],
            [least(-10, a=-1, b=-1, c=-1, d=-1), more(9, a=1, b=1, c=1, d=1)],
            [least(0, a=1, b=-1), least(0, b=1, c=-1), least(0, c=1, d=-1), least(0, d=1, a=-1)],
            [least(5, a=2, b=3), least(-5, a=-2, b=-3), least(1, a=7, b=-1), least(-1, a=-7, b=1)],
        ):
            self.assertIs(self.look_at_met(rows), True, rows)

    def test_rows_that_no_point_meets(self):
        for rows in (
            [least(1, a=1), least(0, a=-1)],
            [more(1, a=1), least(-1, a=-1)],
            [least(1, a=1), more(-1, a=-1)],
            [more(1, a=1), more(-1, a=-1)],
            [more(0, a=1, b=-1), least(0, b=1, c=-1), least(0, c=1, d=-1), least(0, d=1, a=-1)],
            [least(5, a=2, b=3), least(-5, a=-2, b=-3), least(1, a=7, b=-1), least(-1, a=-7, b=1), more(5, a=4, b=1)],
            [least(1, a=1, b=1), least(1, a=1, b=-1), more(-1, a=-1)],
            [least(1, a=1), least(1, b=1), least(1, c=1), least(1, d=1), more(-4, a=-1, b=-1, c=-1, d=-1)],
        ):
            self.assertIs(self.look_at_met(rows), False, rows)

    def test_the_only_point(self):
        rows = [least(1, a=2), least(-1, a=-2), least(0, a=1, b=-3), least(0, a=-1, b=3)]
        self.assertEqual(met(rows), ("point", {"a": (1, 2), "b": (1, 6)}))

    def test_the_only_weights_but_for_a_factor(self):
        kind, weights = met([least(1, a=2, b=1), least(1, a=-3), more(-5, b=-4), least(0, c=1)])
        self.assertEqual(kind, "weights")
        self.assertEqual([3 * weights[1], weights[0], weights[3]], [2 * weights[0], 4 * weights[2], 0])

    def test_rows_without_names(self):
        self.assertEqual(met([]), ("point", {}))
        self.assertEqual(met([least(0)]), ("point", {}))
        self.assertEqual(met([more(-1), least(-7)]), ("point", {}))
        for row in (more(0), least(1), more(1)):
            kind, weights = met([least(0), row, least(1, a=1)])
            self.assertEqual([kind, weights[2]], ["weights", 0])
            self.assertIs(self.look_at_met([least(0), row, least(1, a=1)]), False)

    def test_just_the_names_of_the_rows(self):
        self.assertEqual(sorted(met([least(1, q=1), least(0)])[1]), ["q"])
        self.assertEqual(sorted(met([least(1, z=1, a=-1), more(3, m=2)])[1]), ["a", "m", "z"])

    def test_a_row_twice(self):
        self.assertIs(self.look_at_met([more(1, a=1)] * 6), True)
        self.assertIs(self.look_at_met([more(1, a=1), least(-1, a=-1)] * 3), False)

    def test_any_rows(self):
        seen = [0, 0]
        for turn in range(3000):
            names = self.chance.choice(["a", "ab", "abc", "abcd"])
            size = self.chance.choice([1, 2, 9])
            rows = [random_row(self.chance, names, size) for turn in range(self.chance.randint(1, 6))]
            seen[self.look_at_met(rows)] += 1
        self.assertGreater(min(seen), 500)

    def test_six_full_rows(self):
        seen = [0, 0]
        for turn in range(600):
            rows = []
            for place in range(6):
                terms = {name: self.chance.choice([-2, -1, 1, 2]) for name in "abcd"}
                rows.append(self.chance.choice([least, more])(self.chance.randint(-1, 3), **terms))
            seen[self.look_at_met(rows)] += 1
        self.assertGreater(min(seen), 50)

    def test_rows_that_just_do_or_just_do_not(self):
        # The last row is made of the others, so that it says the contrary of what they say, or all but.
        seen = [0, 0]
        for turn in range(600):
            rows = []
            for name in "abcd":
                rows.append(least(self.chance.randint(-3, 3), **{name: 2, self.chance.choice("xyz"): -1}))
            rows[0] = (self.chance.choice(["least", "more"]),) + rows[0][1:]
            word, terms, bound = added(rows, tuple(self.chance.randint(0, 2) for row in rows))
            last = self.chance.choice(["least", "least", "more"])
            rows.append((last, tuple((name, -weight) for name, weight in terms), -bound))
            seen[self.look_at_met(rows)] += 1
        self.assertGreater(min(seen), 50)

    def test_numbers_of_60_figures(self):
        seen = [0, 0]
        with within(60):
            for turn in range(150):
                rows = []
                for place in range(6):
                    terms = {name: self.sixty_figures() for name in "abcd"}
                    rows.append(self.chance.choice([least, more])(abs(self.sixty_figures()), **terms))
                seen[self.look_at_met(rows)] += 1
        self.assertGreater(min(seen), 10)

    def test_60_figures_near_one_another(self):
        top = 10 ** 60 - 1
        low = least(top - 1, a=top)
        for rows, is_met in (
            ([low, least(1 - top, a=-top)], True),
            ([low, more(1 - top, a=-top)], False),
            ([("more",) + low[1:], more(-top, a=-top)], True),
            ([low, more(2 - top, a=1 - top)], False),
        ):
            self.assertIs(self.look_at_met(rows), is_met, rows)

    def test_somewhat_more_rows_and_names(self):
        seen = [0, 0]
        for turn in range(40):
            rows = [random_row(self.chance, "abcdef", 3) for turn in range(9)]
            seen[self.look_at_met(rows)] += 1
        self.assertGreater(min(seen), 1)

    def test_the_same_again_and_the_askers_own(self):
        rows = [least(1, a=1, b=1), more(0, b=-1)]
        first = met(rows)
        ahead = copy.deepcopy(first)
        first[1]["a"] = (77, 1)
        first[1]["q"] = (0, 1)
        self.assertEqual(met(rows), ahead)
        second = met(rows)
        rows[0] = least(1, a=-1)
        rows.append(more(0))
        self.assertEqual(second, ahead)
        self.assertEqual(met(rows)[0], "weights")
        self.assertEqual(met(rows), met(list(rows)))


class TheLooker(unittest.TestCase):
    def test_what_the_tests_hold_weights_to(self):
        rows = [more(1, a=1), least(-1, a=-1)]
        self.assertTrue(shows(rows, (1, 1)))
        for weights in ((1, 2), (0, 0), (1,), (1, 1, 0), (-1, -1), [1, 1], (True, True)):
            self.assertFalse(shows(rows, weights))
        self.assertFalse(shows([least(1, a=1), least(-1, a=-1)], (1, 1)))
        self.assertTrue(is_so(rows[1], {"a": (1, 1)}) and value(rows[1], {"a": (1, 1)}))


if __name__ == "__main__":
    unittest.main()
