"""Polynomials: tuples of ratios, the entry at index k for the power k, the last one not 0; () is nought."""

from leastlabour.errors import BadPlace, BadPolynomial, IsNought
from leastlabour.ratios import (ONE, ZERO, is_ratio, is_row, is_sequence, make_ratio, minus, over, plus, times,
                                times_row)
from leastlabour.weights import whole_row
from leastlabour.wholepolys import common_whole, whole_value

MOST_ENTRIES = 24


def _without_end(entries):
    """The entries as a tuple, without the zeros at their end."""
    long = len(entries)
    while long > 0 and entries[long - 1] == ZERO:
        long -= 1
    return tuple(entries[:long])


def check_polynomial(polynomial):
    """The polynomial as a tuple, without the zeros at its end."""
    if not is_sequence(polynomial) or len(polynomial) > MOST_ENTRIES or not is_row(polynomial, len(polynomial)):
        raise BadPolynomial()
    return _without_end(polynomial)


def value_at(polynomial, place):
    """The value of the polynomial at a ratio."""
    told = check_polynomial(polynomial)
    if not is_ratio(place):
        raise BadPlace()
    whole, size = whole_row(told)
    value, scale = whole_value(whole, place)
    return make_ratio(value, scale * size)


def sum_polynomial(one, other):
    """The sum of two polynomials, however long they are."""
    short, long = (one, other) if len(one) < len(other) else (other, one)
    added = [plus(left, right) for left, right in zip(short, long)]
    return _without_end(added + list(long[len(short):]))


def product_polynomial(one, other):
    """The product of two polynomials, however long they are."""
    total = [ZERO] * (len(one) + len(other))
    for power, left in enumerate(one):
        for more, right in enumerate(other):
            total[power + more] = plus(total[power + more], times(left, right))
    return _without_end(total)


def add_polynomials(one, other):
    """The sum of two polynomials."""
    told = check_polynomial(one)
    return sum_polynomial(told, check_polynomial(other))


def multiply_polynomials(one, other):
    """The product of two polynomials."""
    told = check_polynomial(one)
    return product_polynomial(told, check_polynomial(other))


def slope_of(polynomial):
    """The derivative of the polynomial."""
    told = check_polynomial(polynomial)
    return tuple([times((power, 1), entry) for power, entry in enumerate(told)][1:])


def divide_polynomials(one, other):
    """The quotient and the rest, which is shorter than the other polynomial."""
    rest = list(check_polynomial(one))
    divisor = check_polynomial(other)
    if divisor == ():
        raise IsNought()
    quotient = []
    while len(rest) >= len(divisor):
        part = over(rest[-1], divisor[-1])
        quotient.append(part)
        at = len(rest) - len(divisor)
        rest = rest[:at] + [minus(left, times(part, right)) for left, right in zip(rest[at:-1], divisor)]
    return tuple(quotient[::-1]), _without_end(rest)


def common_divisor(one, other):
    """The longest polynomial that divides both, its last entry 1; () if both are nought."""
    first, second = check_polynomial(one), check_polynomial(other)
    if first == () and second == ():
        return ()
    whole = [(entry, 1) for entry in common_whole(whole_row(first)[0], whole_row(second)[0])]
    return times_row(whole, over(ONE, whole[-1]))
