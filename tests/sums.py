"""Sums that show answers right, by fractions and without the program."""

from fractions import Fraction
from math import gcd

from tests.drawing import frac, fracs, ratio_kinds, summed


def determinant(rows):
    """The determinant of rows of fractions."""
    rows = [list(row) for row in rows]
    total = Fraction(1)
    for at in range(len(rows)):
        found = [k for k in range(at, len(rows)) if rows[k][at] != 0]
        if not found:
            return Fraction(0)
        if found[0] != at:
            rows[at], rows[found[0]] = rows[found[0]], rows[at]
            total = -total
        total *= rows[at][at]
        for k in range(at + 1, len(rows)):
            part = rows[k][at] / rows[at][at]
            rows[k] = [one - part * other for one, other in zip(rows[k], rows[at])]
    return total


def solution(rows, totals):
    """The one solution of rows of fractions, or None."""
    whole = determinant(rows)
    if whole == 0:
        return None
    told = []
    for place in range(len(rows)):
        changed = [list(row) for row in rows]
        for row, total in zip(changed, totals):
            row[place] = total
        told.append(determinant(changed) / whole)
    return told


def divisor(weights):
    common = 0
    for weight in weights:
        common = gcd(common, weight)
    return common


def whole_numbers(case, weights, many):
    """Checks that these are whole numbers, so many, in a tuple, without a common divisor."""
    case.assertIs(weights.__class__, tuple)
    case.assertEqual(len(weights), many)
    for weight in weights:
        case.assertIs(weight.__class__, int)
    case.assertEqual(divisor(weights), 1)


def weights_of_wholes(case, weights, many):
    whole_numbers(case, weights, many)
    case.assertTrue(min(weights) >= 0)


def way_is_right(case, rows, way):
    whole_numbers(case, way, len(rows))
    case.assertTrue([step for step in way if step != 0][0] > 0)
    for row in rows:
        case.assertEqual(summed(fracs(row), way), 0)


def added_up(rows, weights):
    """The rows with these weights, at each place, as fractions."""
    return [summed([frac(row[place]) for row in rows], weights) for place in range(len(rows[0]))]


def numbers_meet(case, rows, least, numbers):
    case.assertIs(numbers.__class__, tuple)
    ratio_kinds(case, numbers)
    case.assertEqual(len(numbers), len(rows[0]))
    case.assertTrue(all(number[0] >= 0 for number in numbers))
    for row, low in zip(rows, least):
        case.assertTrue(summed(fracs(row), fracs(numbers)) >= frac(low))


def weights_bar(case, rows, least, weights):
    weights_of_wholes(case, weights, len(rows))
    case.assertTrue(all(one <= 0 for one in added_up(rows, weights)))
    case.assertTrue(summed(fracs(least), weights) > 0)


def row_weights(case, rows, weights):
    """Checks that these are ratios from 0 on, one a row, and returns them as fractions."""
    case.assertIs(weights.__class__, tuple)
    ratio_kinds(case, weights)
    case.assertEqual(len(weights), len(rows))
    case.assertTrue(all(weight[0] >= 0 for weight in weights))
    return fracs(weights)


def way_is_endless(case, rows, costs, way):
    weights_of_wholes(case, way, len(rows[0]))
    for row in rows:
        case.assertTrue(summed(fracs(row), way) >= 0)
    case.assertTrue(summed(fracs(costs), way) < 0)


def can_be_met(rows, least):
    """Whether numbers from 0 on meet these rows of fractions, by leaving out one place after the other."""
    places = len(rows[0]) if rows else 0
    lines = [list(row) + [-low] for row, low in zip(rows, least)]
    lines += [[int(k == place) for k in range(places)] + [0] for place in range(places)]
    for place in range(places):
        rising = [line for line in lines if line[place] > 0]
        falling = [line for line in lines if line[place] < 0]
        lines = [line for line in lines if line[place] == 0]
        for one in rising:
            for other in falling:
                lines.append([a / one[place] - b / other[place] for a, b in zip(one, other)])
        kept = {tuple(Fraction(a) / max(abs(b) for b in line) for a in line) for line in lines if any(line)}
        lines = [list(line) for line in kept]
    return all(line[-1] >= 0 for line in lines)


def tell_rows(rows, least):
    """Rows of ratios as rows of fractions."""
    return [fracs(row) for row in rows], fracs(least)
