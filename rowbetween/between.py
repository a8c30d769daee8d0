"""Two sayings: a point at which both are so, or a paper that shows that none is there, and what lies between."""

from rowbetween.sayings import cases, is_so, joined, names_of
from rowbetween.solving import added, solved


def both_so(one, other):
    """Tell ("point", point), a point at which two sayings are so, or ("paper", paper), which shows that none is."""
    firsts = cases(one)
    seconds = cases(other)
    names = names_of(("both", one, other))
    paper = []
    for first in firsts:
        line = []
        for second in seconds:
            answer = solved(first + second, names)
            if answer[0] == "point":
                return answer
            line.append(answer[1])
        paper.append(tuple(line))
    return ("paper", tuple(paper))


def shows_none(rows, weights):
    """Tell whether weights are such as show that no point meets the rows."""
    if len(weights) != len(rows) or any([often < 0 for often in weights]):
        return False
    row = added(rows, weights)
    return row[1] == () and not is_so(row, {})


def lets_by(one, other, paper):
    """Tell whether a paper shows that two sayings are so together at no point."""
    firsts = cases(one)
    seconds = cases(other)
    if len(paper) != len(firsts):
        return False
    for first, line in zip(firsts, paper):
        if len(line) != len(seconds):
            return False
        for second, weights in zip(seconds, line):
            if not shows_none(first + second, weights):
                return False
    return True


def between(one, other):
    """Tell a saying that lies between two sayings, or None, where a point meets both."""
    answer = both_so(one, other)
    if answer[0] == "point":
        return None
    told = []
    for first, line in zip(cases(one), answer[1]):
        told.append(joined("both", [added(first, weights[:len(first)]) for weights in line]))
    return joined("either", told)
