"""What several tests make sayings and numbers with, and an own reckoning to hold the program to."""

import random
import signal
import unittest
from contextlib import contextmanager
from fractions import Fraction

LONG = 10 ** 9999  # the least whole number of 10000 figures


def lowest(top, bottom):
    """The fraction of two whole numbers, as Python reckons it."""
    fraction = Fraction(top, bottom)
    return (fraction.numerator, fraction.denominator)


def least(bound, **weights):
    return ("least", tuple(sorted(weights.items())), bound)


def more(bound, **weights):
    return ("more", tuple(sorted(weights.items())), bound)


def both(one, other):
    return ("both", one, other)


def either(one, other):
    return ("either", one, other)


def no(saying):
    return ("not", saying)


def is_row(saying):
    return saying[0] in ("least", "more")


def count_parts(saying):
    return 1 if is_row(saying) else 1 + sum(count_parts(part) for part in saying[1:])


def depth(saying):
    return 1 if is_row(saying) else 1 + max(depth(part) for part in saying[1:])


def words(saying):
    """All first words of the parts, itself first."""
    found = [saying[0]]
    if not is_row(saying):
        for part in saying[1:]:
            found.extend(words(part))
    return found


def value(saying, point):
    """Whether the saying is so, reckoned with Python's own fractions."""
    if is_row(saying):
        reckoned = sum((weight * Fraction(*point[name]) for name, weight in saying[1]), Fraction(0))
        return reckoned >= saying[2] if saying[0] == "least" else reckoned > saying[2]
    if saying[0] == "not":
        return not value(saying[1], point)
    if saying[0] == "both":
        return value(saying[1], point) and value(saying[2], point)
    return value(saying[1], point) or value(saying[2], point)


def random_row(chance, names="abc", size=3):
    chosen = sorted(chance.sample(names, chance.randint(0, len(names))))
    weights = [w for w in range(-size, size + 1) if w != 0]
    terms = tuple((name, chance.choice(weights)) for name in chosen)
    return (chance.choice(["least", "more"]), terms, chance.randint(-size, size))


def random_saying(chance, parts, names="abc", size=3):
    """A saying of just so many parts."""
    if parts == 1:
        return random_row(chance, names, size)
    if parts == 2 or chance.random() < 0.3:
        return no(random_saying(chance, parts - 1, names, size))
    first = chance.randint(1, parts - 2)
    return (
        chance.choice(["both", "either"]),
        random_saying(chance, first, names, size),
        random_saying(chance, parts - 1 - first, names, size),
    )


def random_point(chance, names="abc", size=3):
    point = {}
    for name in names:
        point[name] = lowest(chance.randint(-size, size), chance.randint(1, 3))
    return point


def deep_saying(row):
    """A saying of 400 parts, 60 of them one within another; row() tells its rows, one by one."""
    saying = row()
    for step in range(59):
        if step < 9:
            side = row()
        elif step < 40:
            side = both(either(row(), row()), both(row(), row()))
        else:
            side = no(either(row(), both(row(), row())))
        saying = ("both" if step % 3 == 0 else "either", saying, side)
    return saying


@contextmanager
def within(seconds):
    """Fail, where what is done takes longer than so many seconds."""

    def stop(number, frame):
        raise AssertionError(f"not done within {seconds} seconds")

    before = signal.signal(signal.SIGALRM, stop)
    signal.alarm(seconds)
    try:
        yield
    finally:
        signal.alarm(0)
        signal.signal(signal.SIGALRM, before)


class RowCase(unittest.TestCase):
    """A test with a chance of its own, the same in every run."""

    def setUp(self):
        self.chance = random.Random(self.id())

    def refusal(self, sort, act, *handed):
        with self.assertRaises(sort) as caught:
            act(*handed)
        self.assertIs(type(caught.exception), sort)
        return caught.exception
