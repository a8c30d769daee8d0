"""What a saying says of some unknowns alone, and points filled up with the others."""

from rowbetween.errors import NoName
from rowbetween.sayings import cases, is_so, joined, names_of
from rowbetween.solving import found_back, taken_out

ALWAYS_SO = ("least", (), 0)


def shadow(saying, names):
    """Tell the saying of some names alone that is so just where a point can be filled up."""
    told = []
    others = [name for name in names_of(saying) if name not in names]
    for case in cases(saying):
        rows = [row for row, weights in taken_out(case, others)[0]]
        told.append(joined("both", rows if rows != [] else [ALWAYS_SO]))
    return joined("either", told)


def filled(saying, names, point):
    """Tell a point at which a saying is so and that has for some names what the given one has, or None."""
    told = cases(saying)
    others = []
    known = {}
    for name in names_of(saying):
        if name not in names:
            others.append(name)
        elif name in point:
            known[name] = point[name]
        else:
            raise NoName(name)
    for case in told:
        steps = taken_out(case, others)
        if all([is_so(row, known) for row, weights in steps[0]]):
            return found_back(steps, others, known)
    return None
