"""Ratios: tuples (top, bottom) of whole numbers in lowest terms, the bottom above 0."""

from math import gcd

from leastlabour.errors import BadRatio

ZERO = (0, 1)
ONE = (1, 1)

MOST_FIGURES = 300


def is_sequence(thing):
    """Whether this is a list or a tuple."""
    return isinstance(thing, (list, tuple))


def is_whole(thing, low=None, high=None):
    """Whether this is a whole number within the bounds that are given."""
    if not isinstance(thing, int) or isinstance(thing, bool):
        return False
    if low is not None and thing < low:
        return False
    return high is None or thing <= high


def is_ratio(thing):
    """Whether this is a ratio in lowest terms."""
    if not isinstance(thing, tuple) or len(thing) != 2:
        return False
    return is_whole(thing[0]) and is_whole(thing[1], 1) and gcd(thing[0], thing[1]) == 1


def is_ratio_from(thing, least):
    """Whether this is a ratio that is not below the ratio `least`."""
    return is_ratio(thing) and compare(thing, least) >= 0


def is_row(thing, many, least=None):
    """Whether this is a sequence of just so many ratios, none below `least` where it is given."""
    if not is_sequence(thing) or len(thing) != many:
        return False
    if least is None:
        return all([is_ratio(one) for one in thing])
    return all([is_ratio_from(one, least) for one in thing])


def make_ratio(top, bottom=1):
    """The ratio top / bottom."""
    if not is_whole(top):
        raise BadRatio("top")
    if not is_whole(bottom) or bottom == 0:
        raise BadRatio("bottom")
    common = gcd(top, bottom)
    if bottom < 0:
        common = -common
    return (top // common, bottom // common)


def plus(one, other):
    """The sum of two ratios."""
    return make_ratio(one[0] * other[1] + other[0] * one[1], one[1] * other[1])


def minus(one, other):
    """The first ratio less the second."""
    return make_ratio(one[0] * other[1] - other[0] * one[1], one[1] * other[1])


def times(one, other):
    """The product of two ratios."""
    return make_ratio(one[0] * other[0], one[1] * other[1])


def over(one, other):
    """The first ratio divided by the second."""
    if other[0] == 0:
        raise BadRatio("zero")
    return make_ratio(one[0] * other[1], one[1] * other[0])


def negative(one):
    """The ratio of the other sign."""
    return (-one[0], one[1])


def compare(one, other):
    """-1, 0 or 1 as the first ratio is below, equal to or above the second."""
    left = one[0] * other[1]
    right = other[0] * one[1]
    if left == right:
        return 0
    return -1 if left < right else 1


def is_lesser(one, other):
    """Whether the first is below the second; None is greater than all ratios."""
    if one is None or other is None:
        return one is not None
    return compare(one, other) < 0


def sum_of(row):
    """The sum of a row."""
    total = ZERO
    for one in row:
        total = plus(total, one)
    return total


def least_of(row):
    """The least entry of a row that is not empty."""
    least = row[0]
    for one in row:
        if compare(one, least) < 0:
            least = one
    return least


def greatest_of(row):
    """The greatest entry of a row that is not empty."""
    greatest = row[0]
    for one in row:
        if compare(one, greatest) > 0:
            greatest = one
    return greatest


def dot(one, other):
    """The sum of the products of two rows of one length, place by place."""
    total = ZERO
    for left, right in zip(one, other):
        if left[0] != 0 and right[0] != 0:
            total = plus(total, times(left, right))
    return total


def plus_rows(one, other):
    """The row of the sums of two rows of one length."""
    return tuple([plus(left, right) for left, right in zip(one, other)])


def times_row(row, ratio):
    """Each entry of the row times the ratio."""
    return tuple([times(one, ratio) for one in row])


def is_at_least(row, least):
    """Whether each entry of the row is at least the entry of the other row of its length."""
    return all([compare(one, low) >= 0 for one, low in zip(row, least)])


def ratio_text(one):
    """The ratio as a text, such as "3" or "-7/2"."""
    top, bottom = one
    return f"{top}" if bottom == 1 else f"{top}/{bottom}"


def _are_figures(text):
    """Whether the text is made of 1 to MOST_FIGURES figures."""
    return 0 < len(text) <= MOST_FIGURES and all([sign in "0123456789" for sign in text])


def read_ratio(text):
    """The ratio that is shown as this very string, or None."""
    body = text[1:] if text.startswith("-") else text
    top_text, stroke, bottom_text = body.partition("/")
    if not stroke:
        bottom_text = "1"
    if not _are_figures(top_text) or not _are_figures(bottom_text):
        return None
    top, bottom = int(top_text), int(bottom_text)
    if bottom == 0:
        return None
    one = make_ratio(top if body == text else -top, bottom)
    return one if ratio_text(one) == text else None


def ratio_of(text):
    """The ratio that is shown as this very text."""
    one = read_ratio(text) if isinstance(text, str) else None
    if one is None:
        raise BadRatio("text")
    return one
