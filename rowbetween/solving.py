"""Rows together: a point that meets them all, or weights that show that none does.

A sum here is a tuple (row, weights): the row of the first rows, taken as often
as the weights say and added up.
"""

from rowbetween.fractions import common_divisor, made
from rowbetween.pieces import ENDLESS, number_in, tighter
from rowbetween.sayings import is_so, names_of, top_of_sum, tops_of


def added(rows, weights):
    """Tell the row of the rows, each taken as often as its weight says, added up."""
    word = "least"
    sums = {}
    bound = 0
    for row, often in zip(rows, weights):
        if row[0] == "more" and often > 0:
            word = "more"
        for name, weight in row[1]:
            sums[name] = sums.get(name, 0) + often * weight
        bound = bound + often * row[2]
    terms = tuple([(name, sums[name]) for name in sorted(sums) if sums[name] != 0])
    return (word, terms, bound)


def weight_of(name, row):
    """Tell the weight that a name has in a row, 0 where it doesn't stand in it."""
    for found, weight in row[1]:
        if found == name:
            return weight
    return 0


def alone(rows):
    """Tell the sums that are each one of the rows, taken once."""
    told = []
    for place, row in enumerate(rows):
        told.append((row, tuple([1 if other == place else 0 for other in range(len(rows))])))
    return told


def shortened(weights):
    """Tell weights, not all of them nought, without their common divisor."""
    divisor = 0
    for weight in weights:
        divisor = common_divisor(divisor, weight)
    return tuple([weight // divisor for weight in weights])


def crossed(low, high, name):
    """Tell the weights of two sums, so many times each that a name goes.

    The first one bounds the name from below and the second one from above.
    """
    low_times = -weight_of(name, high[0])
    high_times = weight_of(name, low[0])
    return shortened([one * low_times + other * high_times for one, other in zip(low[1], high[1])])


def without(rows, sums, name, most):
    """Tell the sums that are left where a name is taken out, none of more than so many of the rows."""
    told = [held for held in sums if weight_of(name, held[0]) == 0]
    lows = [held for held in sums if weight_of(name, held[0]) > 0]
    highs = [held for held in sums if weight_of(name, held[0]) < 0]
    for low in lows:
        for high in highs:
            weights = crossed(low, high, name)
            if len([often for often in weights if often > 0]) <= most:
                told.append((added(rows, weights), weights))
    return told


def taken_out(rows, names):
    """Take names out of rows one by one, the last name first.

    Tells a list that has a list of sums for each step, the last step first:
    sums without any of the names, then with the first name alone left in them,
    and so on up to the rows themselves.
    """
    sums = alone(rows)
    told = [sums]
    for name in reversed(names):
        # Behind k names, sums of more than k + 1 rows say nothing that the others don't say.
        sums = without(rows, sums, name, len(told) + 1)
        told.insert(0, sums)
    return told


def bound_on(name, row, point):
    """Tell the number at which a name in a row makes its sum the bound, where a point has the other names."""
    others = [term for term in row[1] if term[0] != name]
    known = tops_of([term[0] for term in others], point)
    return made(row[2] * known[1] - top_of_sum(others, known[0]), weight_of(name, row) * known[1])


def piece_for(name, sums, point):
    """Tell the piece that sums leave to a name that stands in them, where a point has the other names."""
    low = ENDLESS
    high = ENDLESS
    for row, weights in sums:
        weight = weight_of(name, row)
        if weight > 0:
            low = tighter(low, (bound_on(name, row, point), row[0] == "least"), True)
        if weight < 0:
            high = tighter(high, (bound_on(name, row, point), row[0] == "least"), False)
    return low + high


def found_back(steps, names, point):
    """Tell a point with the names that were taken out by the steps, where all sums of the first step are so."""
    told = dict(point)
    for name, sums in zip(names, steps[1:]):
        told[name] = number_in(piece_for(name, sums, told))
    return told


def solved(rows, names):
    """Tell ("point", point) with just the names, all those of the rows among them, or ("weights", weights)."""
    steps = taken_out(rows, names)
    for row, weights in steps[0]:
        if not is_so(row, {}):
            return ("weights", weights)
    return ("point", found_back(steps, names, {}))


def met(rows):
    """Tell ("point", point), a point at which all rows are so, or ("weights", weights), which show that none is."""
    found = {}
    for row in rows:
        for name in names_of(row):
            found[name] = True
    return solved(rows, sorted(found))
