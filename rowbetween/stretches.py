"""What a saying says of one unknown alone, as pieces of the numbers' line."""

from rowbetween.pieces import put_in
from rowbetween.sayings import cases, is_so, names_of
from rowbetween.solving import piece_for, taken_out


def stretch(saying, name):
    """Tell the pieces, in order from below, of the numbers that a name can have where a saying is so."""
    names = [name] + [other for other in names_of(saying) if other != name]
    told = []
    for case in cases(saying):
        steps = taken_out(case, names)
        # The sums without a name tell whether the piece has a number in it.
        if all([is_so(row, {}) for row, weights in steps[0]]):
            told = put_in(told, piece_for(name, steps[1], {}))
    return told
