"""Judges of the answers about systems and tasks: None for a right one, else the first word that applies."""

from leastlabour.ratios import ZERO, compare, dot, is_at_least, is_ratio, is_row, is_sequence, is_whole
from leastlabour.weights import are_weights, divisor_of, weigh


def solved_fault(rows, totals, told):
    """Judges a Solved."""
    if not is_row(told.numbers, len(rows)):
        return "numbers"
    if any([compare(dot(row, told.numbers), total) != 0 for row, total in zip(rows, totals)]):
        return "row"
    return None


def singular_fault(rows, told):
    """Judges a Singular."""
    way = told.way
    if not is_sequence(way) or len(way) != len(rows) or not all([is_whole(step) for step in way]):
        return "way"
    if divisor_of(way) != 1:
        return "divisor"
    if [step for step in way if step != 0][0] < 0:
        return "sign"
    if any([compare(weigh(way, row), ZERO) != 0 for row in rows]):
        return "row"
    return None


def _values_at(rows, numbers):
    """The value of each row at the numbers."""
    return [dot(row, numbers) for row in rows]


def _place_fault(rows, numbers):
    """The first two of the words of numbers, or None."""
    if not is_row(numbers, len(rows[0])):
        return "numbers"
    if any([compare(number, ZERO) < 0 for number in numbers]):
        return "below"
    return None


def _number_fault(rows, least, numbers):
    """The first of the words of numbers that applies, or None."""
    word = _place_fault(rows, numbers)
    if word is None and not is_at_least(_values_at(rows, numbers), least):
        return "row"
    return word


def _value_fault(costs, told):
    """The word "value", or None."""
    if not is_ratio(told.value) or compare(told.value, dot(costs, told.numbers)) != 0:
        return "value"
    return None


def _columns_of(rows):
    """The entries of all rows at each place."""
    return [[row[place] for row in rows] for place in range(len(rows[0]))]


def _added_up(rows, weights):
    """The rows with these weights added up, for weights that are ratios."""
    return [dot(weights, column) for column in _columns_of(rows)]


def found_fault(rows, least, told):
    """Judges a Found."""
    return _number_fault(rows, least, told.numbers)


def barred_fault(rows, least, told):
    """Judges a Barred."""
    weights = told.weights
    if not are_weights(weights, len(rows)):
        return "weights"
    if divisor_of(weights) != 1:
        return "divisor"
    if any([compare(weigh(weights, column), ZERO) > 0 for column in _columns_of(rows)]):
        return "places"
    if compare(weigh(weights, least), ZERO) <= 0:
        return "least"
    return None


def least_fault(rows, least, costs, told):
    """Judges a Least."""
    word = _number_fault(rows, least, told.numbers) or _value_fault(costs, told)
    if word is not None:
        return word
    if not is_row(told.weights, len(rows), ZERO):
        return "weights"
    if not is_at_least(costs, _added_up(rows, told.weights)):
        return "places"
    if compare(dot(told.weights, least), told.value) != 0:
        return "least"
    return None


def greatest_fault(rows, most, gains, told):
    """Judges a Greatest."""
    word = _place_fault(rows, told.numbers)
    if word is not None:
        return word
    if not is_at_least(most, _values_at(rows, told.numbers)):
        return "row"
    if _value_fault(gains, told) is not None:
        return "value"
    if not is_row(told.weights, len(rows), ZERO):
        return "weights"
    if not is_at_least(_added_up(rows, told.weights), gains):
        return "places"
    if compare(dot(told.weights, most), told.value) != 0:
        return "most"
    return None


def endless_fault(rows, least, costs, told):
    """Judges an Endless."""
    word = _number_fault(rows, least, told.numbers)
    if word is not None:
        return word
    if not are_weights(told.way, len(rows[0])):
        return "way"
    if divisor_of(told.way) != 1:
        return "divisor"
    if any([compare(weigh(told.way, row), ZERO) < 0 for row in rows]):
        return "along"
    if compare(weigh(told.way, costs), ZERO) >= 0:
        return "costs"
    return None


def follows_fault(rows, least, wanted, total, told):
    """Judges a Follows."""
    if not is_row(told.weights, len(rows), ZERO):
        return "weights"
    if not is_at_least(wanted, _added_up(rows, told.weights)):
        return "places"
    if compare(dot(told.weights, least), total) < 0:
        return "least"
    return None


def fails_fault(rows, least, wanted, total, told):
    """Judges a Fails."""
    word = _number_fault(rows, least, told.numbers)
    if word is None and compare(dot(wanted, told.numbers), total) >= 0:
        return "wanted"
    return word
