"""What several tests make sayings and numbers with, and an own reckoning to hold the program to."""

import copy
import random
import signal
import unittest
from contextlib import contextmanager
from fractions import Fraction

from rowbetween.solving import met

LONG = 10 ** 9999  # the least whole number of 10000 figures


def lowest(top, bottom):
    """The fraction of two whole numbers, as Python reckons it."""
    fraction = Fraction(top, bottom)
    return (fraction.numerator, fraction.denominator)


def least(bound, **weights):
    return ("least", tuple(sorted(weights.items())), bound)


def more(bound, **weights):
    return ("more", tuple(sorted(weights.items())), bound)


def both(one, other):
    return ("both", one, other)


def either(one, other):
    return ("either", one, other)


def no(saying):
    return ("not", saying)


def is_row(saying):
    return saying[0] in ("least", "more")


def count_parts(saying):
    return 1 if is_row(saying) else 1 + sum(count_parts(part) for part in saying[1:])


def depth(saying):
    return 1 if is_row(saying) else 1 + max(depth(part) for part in saying[1:])


def words(saying):
    """All first words of the parts, itself first."""
    found = [saying[0]]
    if not is_row(saying):
        for part in saying[1:]:
            found.extend(words(part))
    return found


def value(saying, point):
    """Whether the saying is so, reckoned with Python's own fractions."""
    if is_row(saying):
        reckoned = sum((weight * Fraction(*point[name]) for name, weight in saying[1]), Fraction(0))
        return reckoned >= saying[2] if saying[0] == "least" else reckoned > saying[2]
    if saying[0] == "not":
        return not value(saying[1], point)
    if saying[0] == "both":
        return value(saying[1], point) and value(saying[2], point)
    return value(saying[1], point) or value(saying[2], point)


def plain_form(saying):
    """The plain form, word by word as the document tells it."""
    if is_row(saying):
        return saying
    if saying[0] != "not":
        return (saying[0], plain_form(saying[1]), plain_form(saying[2]))
    inner = saying[1]
    if is_row(inner):
        word = "more" if inner[0] == "least" else "least"
        return (word, tuple((name, -weight) for name, weight in inner[1]), -inner[2])
    if inner[0] == "not":
        return plain_form(inner[1])
    word = "either" if inner[0] == "both" else "both"
    return (word, plain_form(no(inner[1])), plain_form(no(inner[2])))


def all_cases(saying):
    """The cases of a plain saying, however many."""
    if is_row(saying):
        return [[saying]]
    one = all_cases(saying[1])
    other = all_cases(saying[2])
    if saying[0] == "either":
        return one + other
    return [first + second for first in one for second in other]


def fits(told):
    return len(told) <= 4 and max(len(case) for case in told) <= 3


def joined(word, sayings):
    whole = sayings[0]
    for saying in sayings[1:]:
        whole = (word, whole, saying)
    return whole


def shows(rows, weights):
    """Whether weights show, by the document's words, that no point meets the rows."""
    if type(weights) is not tuple or len(weights) != len(rows):
        return False
    if any(type(often) is not int or often < 0 for often in weights):
        return False
    for name in {name for row in rows for name, weight in row[1]}:
        if sum(often * dict(row[1]).get(name, 0) for row, often in zip(rows, weights)) != 0:
            return False
    bound = sum(often * row[2] for row, often in zip(rows, weights))
    strict = any(row[0] == "more" and often > 0 for row, often in zip(rows, weights))
    return bound > 0 or (bound == 0 and strict)


def put_into(saying, point):
    """The saying of the other names that is left where the point's names have its numbers."""
    if not is_row(saying):
        return (saying[0],) + tuple(put_into(part, point) for part in saying[1:])
    bound = Fraction(saying[2])
    for name, weight in saying[1]:
        bound -= weight * Fraction(*point[name]) if name in point else 0
    scale = bound.denominator
    terms = tuple((name, weight * scale) for name, weight in saying[1] if name not in point)
    return (saying[0], terms, bound.numerator)


def random_row(chance, names="abc", size=3):
    chosen = sorted(chance.sample(names, chance.randint(0, len(names))))
    weights = [w for w in range(-size, size + 1) if w != 0]
    terms = tuple((name, chance.choice(weights)) for name in chosen)
    return (chance.choice(["least", "more"]), terms, chance.randint(-size, size))


def random_saying(chance, parts, names="abc", size=3):
    """A saying of just so many parts."""
    if parts == 1:
        return random_row(chance, names, size)
    if parts == 2 or chance.random() < 0.3:
        return no(random_saying(chance, parts - 1, names, size))
    first = chance.randint(1, parts - 2)
    return (
        chance.choice(["both", "either"]),
        random_saying(chance, first, names, size),
        random_saying(chance, parts - 1 - first, names, size),
    )


def fitting_saying(chance, names="abc", size=3):
    """A saying with at most four cases of at most three rows each."""
    if chance.random() < 0.5:
        told = []
        for turn in range(chance.randint(1, 4)):
            told.append(joined("both", [random_row(chance, names, size) for row in range(chance.randint(1, 3))]))
        return joined("either", told)
    while True:
        saying = random_saying(chance, chance.randint(1, 14), names, size)
        if fits(all_cases(plain_form(saying))):
            return saying


def random_point(chance, names="abc", size=3):
    point = {}
    for name in names:
        point[name] = lowest(chance.randint(-size, size), chance.randint(1, 3))
    return point


def deep_saying(row):
    """A saying of 400 parts, 60 of them one within another; row() tells its rows, one by one."""
    saying = row()
    for step in range(59):
        if step < 9:
            side = row()
        elif step < 40:
            side = both(either(row(), row()), both(row(), row()))
        else:
            side = no(either(row(), both(row(), row())))
        saying = ("both" if step % 3 == 0 else "either", saying, side)
    return saying


@contextmanager
def within(seconds):
    """Fail, where what is done takes longer than so many seconds."""

    def stop(number, frame):
        raise AssertionError(f"not done within {seconds} seconds")

    before = signal.signal(signal.SIGALRM, stop)
    signal.alarm(seconds)
    try:
        yield
    finally:
        signal.alarm(0)
        signal.signal(signal.SIGALRM, before)


class RowCase(unittest.TestCase):
    """A test with a chance of its own, the same in every run."""

    def setUp(self):
        self.chance = random.Random(self.id())

    def sixty_figures(self):
        """A whole number of 60 figures, of any sign."""
        return self.chance.choice([1, -1]) * self.chance.randrange(10 ** 59, 10 ** 60)

    def full_row(self, names):
        """A row that says "least", with all of the names and numbers of 60 figures."""
        return least(self.sixty_figures(), **{name: self.sixty_figures() for name in names})

    def is_fraction(self, told):
        self.assertEqual([type(told), len(told)] + [type(part) for part in told], [tuple, 2, int, int])
        self.assertGreater(told[1], 0)
        self.assertEqual(lowest(*told), told)

    def is_point(self, told, names):
        """Look whether a point has just the names, and fractions for them."""
        self.assertIs(type(told), dict)
        self.assertEqual(sorted(told), sorted(names))
        for fraction in told.values():
            self.is_fraction(fraction)

    def is_saying(self, told):
        """Look at the form and the size of a saying that was told."""
        self.assertIs(type(told), tuple)
        self.assertLessEqual(count_parts(told), 400)
        self.assertLessEqual(depth(told), 60)
        self.is_formed(told)

    def is_formed(self, told):
        if not is_row(told):
            self.assertEqual(len(told), 2 if told[0] == "not" else 3)
            self.assertIn(told[0], ("not", "both", "either"))
            for part in told[1:]:
                self.assertIs(type(part), tuple)
                self.is_formed(part)
            return
        self.assertEqual([len(told), type(told[1]), type(told[2])], [3, tuple, int])
        for term in told[1]:
            self.assertEqual([type(term), len(term), type(term[1])], [tuple, 2, int])
            self.assertNotEqual(term[1], 0)
        names = [term[0] for term in told[1]]
        self.assertEqual(names, sorted(set(names)))

    def look_at_met(self, rows):
        """Ask for the rows together, look through the answer, and tell whether it is a point."""
        kept = copy.deepcopy(rows)
        told = met(rows)
        self.assertEqual(rows, kept)
        self.assertEqual([type(told), len(told)], [tuple, 2])
        if told[0] == "weights":
            self.assertTrue(shows(rows, told[1]), (rows, told))
            return False
        self.assertEqual(told[0], "point")
        self.is_point(told[1], {name for row in rows for name, weight in row[1]})
        self.assertTrue(all(value(row, told[1]) for row in rows), (rows, told))
        return True

    def somewhere(self, saying):
        """Whether a saying is so at some point, each step looked through."""
        return any([self.look_at_met(case) for case in all_cases(plain_form(saying))])

    def refusal(self, sort, act, *handed):
        with self.assertRaises(sort) as caught:
            act(*handed)
        self.assertIs(type(caught.exception), sort)
        return caught.exception
