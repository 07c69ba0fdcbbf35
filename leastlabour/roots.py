"""Real roots of polynomials: how many there are, in which pieces they lie, and the signs between them."""

from leastlabour.errors import BadSpan, IsNought
from leastlabour.polynomials import check_polynomial, common_divisor, divide_polynomials, slope_of
from leastlabour.ratios import compare, is_ratio, minus, plus, times
from leastlabour.weights import whole_row
from leastlabour.wholepolys import rest_of, sign_at, whole_slope
from leastlabour.works import is_above_zero


def check_span(low, high):
    """Raises BadSpan unless low is a ratio and high one above it."""
    if not is_ratio(low):
        raise BadSpan("low")
    if not is_ratio(high) or compare(high, low) <= 0:
        raise BadSpan("high")


def check_width(width):
    """Raises BadSpan unless the width is a ratio above 0."""
    if not is_above_zero(width):
        raise BadSpan("width")


def middle_of(low, high):
    """The ratio half way from low to high."""
    return times(plus(low, high), (1, 2))


def is_wider(low, high, width):
    """Whether high less low is above the width."""
    return compare(minus(high, low), width) > 0


def _bare(polynomial):
    """A polynomial of whole numbers with each root of this one, which is not nought, once."""
    return whole_row(divide_polynomials(polynomial, common_divisor(polynomial, slope_of(polynomial)))[0])[0]


def _chain_of(bare):
    """The polynomial, its derivative and the rests of division, each with the other sign: Sturm's chain."""
    chain = [bare]
    behind = whole_slope(bare)
    while behind:
        chain.append(behind)
        behind = [-entry for entry in rest_of(chain[-2], behind)]
    return chain


def _changes_at(chain, place):
    """How often the sign changes along the chain at a place, zeros left out."""
    signs = [sign_at(whole, place) for whole in chain]
    kept = [sign for sign in signs if sign != 0]
    return len([left for left, right in zip(kept, kept[1:]) if left != right])


def _narrowed(bare, low, high, width):
    """The piece at most so wide, got by halving, that holds the one root above low and at most high."""
    side = _sign_of(bare, low, 1)
    while is_wider(low, high, width):
        middle = middle_of(low, high)
        if sign_at(bare, middle) == side:
            low = middle
        else:
            high = middle
    return (low, high)


def _pieces(polynomial, low, high, width):
    """The answer of find_roots for right arguments."""
    bare = _bare(polynomial)
    chain = _chain_of(bare)
    # Changes of sign less those at a place behind it are the roots above the one and at most the other.
    at_high = 1 if sign_at(bare, high) == 0 else 0
    waiting = [(low, _changes_at(chain, low), high, _changes_at(chain, high) + at_high)]
    told = []
    while waiting:
        left, more, right, fewer = waiting.pop()
        if more - fewer == 1:
            told.append(_narrowed(bare, left, right, width))
        elif more - fewer > 1:
            middle = middle_of(left, right)
            changes = _changes_at(chain, middle)
            waiting.append((middle, changes, right, fewer))
            waiting.append((left, more, middle, changes))
    return tuple(told)


def count_roots(polynomial, low, high):
    """How many unlike roots lie from low to high, both included."""
    told = check_polynomial(polynomial)
    check_span(low, high)
    if told == ():
        raise IsNought()
    bare = _bare(told)
    chain = _chain_of(bare)
    at_low = 1 if sign_at(bare, low) == 0 else 0
    return _changes_at(chain, low) - _changes_at(chain, high) + at_low


def find_roots(polynomial, low, high, width):
    """Pieces from above a to b, at most so wide, one for each unlike root strictly between low and high."""
    told = check_polynomial(polynomial)
    check_span(low, high)
    check_width(width)
    if told == ():
        raise IsNought()
    return _pieces(told, low, high, width)


def _sign_of(whole, place, side):
    """The sign close behind the place (side 1) or close before it (side -1); 0 for nought."""
    turn = 1
    while whole:
        sign = sign_at(whole, place)
        if sign != 0:
            return sign * turn
        whole, turn = whole_slope(whole), turn * side
    return 0


def sign_behind(polynomial, place):
    """The sign of the polynomial close behind the place; 0 for nought."""
    return _sign_of(whole_row(polynomial)[0], place, 1)


def sides_of(polynomial, low, high):
    """The signs on the stretches into which the roots strictly between part low to high; (0,) for nought."""
    told = check_polynomial(polynomial)
    check_span(low, high)
    if told == ():
        return (0,)
    whole = whole_row(told)[0]
    pieces = _pieces(told, low, high, minus(high, low))
    return tuple([_sign_of(whole, left, 1) for left, _ in pieces] + [_sign_of(whole, high, -1)])


def is_never_below(polynomial, low, high):
    """Whether the value is 0 or more at all numbers from low to high."""
    return -1 not in sides_of(polynomial, low, high)
