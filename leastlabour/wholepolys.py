"""Polynomials of whole numbers, in which nothing is divided: lists, the entry at index k for the power k."""

from leastlabour.weights import in_lowest


def whole_value(whole, place):
    """The value at a ratio as a whole number times a power of the ratio's bottom, and this power."""
    top, bottom = place
    value, scale = 0, 1
    for at, entry in enumerate(whole[::-1]):
        if at > 0:
            scale = scale * bottom
        value = value * top + entry * scale
    return value, scale


def sign_at(whole, place):
    """The sign of the value at a ratio."""
    value, _ = whole_value(whole, place)
    if value == 0:
        return 0
    return 1 if value > 0 else -1


def whole_slope(whole):
    """The derivative."""
    return [power * entry for power, entry in enumerate(whole)][1:]


def rest_of(one, other):
    """What is left when the first is divided by the second, times some number above 0, without a common divisor."""
    rest = one
    size = abs(other[-1])
    sign = 1 if other[-1] > 0 else -1
    while len(rest) >= len(other):
        at = len(rest) - len(other)
        part = sign * rest[-1]
        rest = [size * entry for entry in rest[:-1]]
        for place, entry in enumerate(other[:-1]):
            rest[at + place] -= part * entry
        while rest and rest[-1] == 0:
            rest = rest[:-1]
    return list(in_lowest(rest)) if rest else rest


def common_whole(one, other):
    """The longest polynomial that divides both, times some number; not both are nought."""
    while other:
        one, other = other, rest_of(one, other)
    return one
