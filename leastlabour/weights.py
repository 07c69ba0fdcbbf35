"""Weights: whole numbers, one a place, and rows in whole numbers."""

from math import gcd, lcm

from leastlabour.ratios import ZERO, is_sequence, is_whole, plus, times


def divisor_of(weights):
    """The greatest common divisor of whole numbers; 0 if all are 0."""
    common = 0
    for weight in weights:
        common = gcd(common, weight)
    return common


def in_lowest(weights):
    """The whole numbers, not all 0, without a common divisor above 1."""
    common = divisor_of(weights)
    return tuple([weight // common for weight in weights])


def are_weights(thing, many):
    """Whether this is a sequence of just so many whole numbers from 0 on."""
    return is_sequence(thing) and len(thing) == many and all([is_whole(weight, 0) for weight in thing])


def weigh(weights, row):
    """The sum of weight times entry, for whole numbers and a row."""
    total = ZERO
    for weight, entry in zip(weights, row):
        if weight != 0:
            total = plus(total, times((weight, 1), entry))
    return total


def whole_row(row):
    """The row times the least whole number that makes all of it whole, and that number."""
    size = 1
    for _, bottom in row:
        size = lcm(size, bottom)
    return [top * (size // bottom) for top, bottom in row], size
