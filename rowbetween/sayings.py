"""Rows and sayings: their names, parts, plain forms and cases, and where they are so."""

from rowbetween.errors import NoName, TooMany
from rowbetween.fractions import made

MOST_CASES = 4
MOST_ROWS = 3

OPPOSITES = {"least": "more", "more": "least", "both": "either", "either": "both"}


def is_row(saying):
    """Tell whether a saying is a row."""
    return saying[0] == "least" or saying[0] == "more"


def joined(word, sayings):
    """Tell the one saying that puts one or more sayings together by a word."""
    told = sayings[0]
    for saying in sayings[1:]:
        told = (word, told, saying)
    return told


def mark_names(saying, found):
    """Put the names that stand in a saying into the dict found."""
    if is_row(saying):
        for name, weight in saying[1]:
            found[name] = True
        return
    for part in saying[1:]:
        mark_names(part, found)


def names_of(saying):
    """Tell the names that stand in a saying, in the letters' order, each once."""
    found = {}
    mark_names(saying, found)
    return sorted(found)


def parts_of(saying):
    """Tell how many parts a saying has, itself among them."""
    parts = 1
    if not is_row(saying):
        for part in saying[1:]:
            parts += parts_of(part)
    return parts


def tops_of(names, point):
    """Tell a tuple (tops, bottom): what a point has for the names, brought to one bottom.

    The first of the names for which the point has nothing is refused. The one
    bottom isn't the least that would do: with long numbers, looking for that
    takes far longer than reckoning with a longer one.
    """
    bottom = 1
    for name in names:
        if name not in point:
            raise NoName(name)
        bottom = bottom * point[name][1]
    tops = {}
    for name in names:
        value = point[name]
        tops[name] = value[0] * (bottom // value[1])
    return (tops, bottom)


def top_of_sum(terms, tops):
    """Tell the sum of terms, of the tops alone."""
    top = 0
    for name, weight in terms:
        top = top + weight * tops[name]
    return top


def total(terms, point):
    """Tell the sum of terms at a point, a fraction."""
    known = tops_of([term[0] for term in terms], point)
    return made(top_of_sum(terms, known[0]), known[1])


def row_is_so(row, tops, bottom):
    """Tell whether a row is so where its names have the tops over the one bottom."""
    top = top_of_sum(row[1], tops)
    bound = row[2] * bottom
    if row[0] == "least":
        return top >= bound
    return top > bound


def part_is_so(saying, tops, bottom):
    """Tell whether a saying is so where its names have the tops over the one bottom."""
    if is_row(saying):
        return row_is_so(saying, tops, bottom)
    first = part_is_so(saying[1], tops, bottom)
    if saying[0] == "not":
        return not first
    if saying[0] == "both":
        return first and part_is_so(saying[2], tops, bottom)
    return first or part_is_so(saying[2], tops, bottom)


def is_so(saying, point):
    """Tell whether a saying is so at a point."""
    # All names are looked for first: the answer may not hang on one that is missing.
    known = tops_of(names_of(saying), point)
    return part_is_so(saying, known[0], known[1])


def contrary(row):
    """Tell the row that is so just where the given one isn't."""
    terms = tuple([(name, -weight) for name, weight in row[1]])
    return (OPPOSITES[row[0]], terms, -row[2])


def plain_part(saying, turned):
    """Tell the plain form of a saying, or of its "not" where turned is True."""
    if saying[0] == "not":
        return plain_part(saying[1], not turned)
    if is_row(saying):
        return contrary(saying) if turned else saying
    word = OPPOSITES[saying[0]] if turned else saying[0]
    return (word, plain_part(saying[1], turned), plain_part(saying[2], turned))


def plain(saying):
    """Tell the plain form of a saying: the same, without "not"."""
    return plain_part(saying, False)


def put_together(one, other):
    """Tell the cases of a "both" whose two sayings have the given cases."""
    told = []
    for first in one:
        for second in other:
            told.append(first + second)
    return told


def cases_within(part, whole):
    """Tell the cases of a plain part, or refuse the whole saying that it stands in."""
    if is_row(part):
        return [[part]]
    one = cases_within(part[1], whole)
    other = cases_within(part[2], whole)
    told = put_together(one, other) if part[0] == "both" else one + other
    # Neither count ever falls, so that a part with too many is enough to refuse
    # the whole, and no list here grows long.
    if len(told) > MOST_CASES or max([len(case) for case in told]) > MOST_ROWS:
        raise TooMany(whole)
    return told


def cases(saying):
    """Tell the cases of a saying, lists of rows, in order."""
    return cases_within(plain(saying), saying)
