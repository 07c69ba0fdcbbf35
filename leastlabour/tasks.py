"""Tasks: rows that numbers from 0 on have to meet, and what follows from them, with weights that show it."""

from leastlabour.errors import BadTask
from leastlabour.lots import all_lots, holds_one_of
from leastlabour.ratios import (ONE, ZERO, compare, dot, is_ratio, is_row, is_sequence, is_whole, minus, negative, over,
                                plus, plus_rows, times_row)
from leastlabour.simplex import (Table, barring_weights, cost_weights, lower_costs, meet_lines, numbers_in, way_in)
from leastlabour.weights import weigh

MOST_ROWS = 64
MOST_PLACES = 24
MOST_FREE = 8


class Found:
    """Numbers that meet the task."""

    def __init__(self, numbers):
        self.numbers = numbers

    def __eq__(self, other):
        return isinstance(other, Found) and self.numbers == other.numbers


class Barred:
    """Weights of the rows that show that no numbers meet the task."""

    def __init__(self, weights):
        self.weights = weights

    def __eq__(self, other):
        return isinstance(other, Barred) and self.weights == other.weights


class Least:
    """The least costs, numbers that have them and weights that show that none have less."""

    def __init__(self, value, numbers, weights):
        self.value = value
        self.numbers = numbers
        self.weights = weights

    def __eq__(self, other):
        return (isinstance(other, Least) and self.value == other.value and self.numbers == other.numbers
                and self.weights == other.weights)


class Greatest:
    """The greatest gains, numbers that have them and weights that show that none have more."""

    def __init__(self, value, numbers, weights):
        self.value = value
        self.numbers = numbers
        self.weights = weights

    def __eq__(self, other):
        return (isinstance(other, Greatest) and self.value == other.value and self.numbers == other.numbers
                and self.weights == other.weights)


class Endless:
    """Numbers that meet the task, and a way on which they go on to and the costs fall without end."""

    def __init__(self, numbers, way):
        self.numbers = numbers
        self.way = way

    def __eq__(self, other):
        return isinstance(other, Endless) and self.numbers == other.numbers and self.way == other.way


class Follows:
    """Weights of the rows that show that the wanted row has the total."""

    def __init__(self, weights):
        self.weights = weights

    def __eq__(self, other):
        return isinstance(other, Follows) and self.weights == other.weights


class Fails:
    """Numbers that meet the task at which the wanted row is below the total."""

    def __init__(self, numbers):
        self.numbers = numbers

    def __eq__(self, other):
        return isinstance(other, Fails) and self.numbers == other.numbers


def _check_task(rows, least):
    """Raises BadTask unless these are a task; returns its number of places."""
    if not is_sequence(rows) or not 1 <= len(rows) <= MOST_ROWS:
        raise BadTask("many")
    if not is_sequence(rows[0]) or not 1 <= len(rows[0]) <= MOST_PLACES:
        raise BadTask("row")
    places = len(rows[0])
    if not all([is_row(row, places) for row in rows]):
        raise BadTask("row")
    if not is_row(least, len(rows)):
        raise BadTask("least")
    return places


def _check_costs(costs, places):
    """Raises BadTask unless these are costs of so many places."""
    if not is_row(costs, places):
        raise BadTask("costs")


def _cheapest(rows, least, costs):
    """The answer of least_cost, for right arguments; there may be no rows."""
    table = Table(rows, least, costs)
    barring = meet_lines(table)
    if barring is not None:
        return Barred(barring_weights(table, barring))
    endless = lower_costs(table)
    numbers = numbers_in(table)
    if endless is not None:
        return Endless(numbers, way_in(table, endless))
    return Least(dot(costs, numbers), numbers, cost_weights(table))


def _met(rows, least, places):
    """The answer of find_from, for right arguments; there may be no rows."""
    table = Table(rows, least, [ZERO] * places)
    barring = meet_lines(table)
    if barring is not None:
        return Barred(barring_weights(table, barring))
    return Found(numbers_in(table))


def find_from(rows, least):
    """Found with numbers that meet the task, or Barred."""
    places = _check_task(rows, least)
    return _met(rows, least, places)


def least_cost(rows, least, costs):
    """Least with the least costs of numbers that meet the task, or Barred, or Endless."""
    places = _check_task(rows, least)
    _check_costs(costs, places)
    return _cheapest(rows, least, costs)


def most_gain(rows, most, gains):
    """Greatest with the greatest gains of numbers that leave each row at most its most, or Barred, or Endless."""
    places = _check_task(rows, most)
    _check_costs(gains, places)
    turned = [_negative_row(row) for row in rows]
    told = _cheapest(turned, _negative_row(most), _negative_row(gains))
    if isinstance(told, Least):
        return Greatest(negative(told.value), told.numbers, told.weights)
    return told


def _negative_row(row):
    """Each entry of the row with the other sign."""
    return tuple([negative(one) for one in row])


def _numbers_below(told, wanted, total):
    """Numbers at which `wanted` is below the total, on the way of an Endless of it."""
    above = minus(dot(wanted, told.numbers), total)
    if compare(above, ZERO) < 0:
        return told.numbers
    length = plus(over(above, negative(weigh(told.way, wanted))), ONE)
    return plus_rows(told.numbers, times_row([(step, 1) for step in told.way], length))


def _following(rows, least, wanted, total):
    """The answer of follows_from, for right arguments; there may be no rows."""
    told = _cheapest(rows, least, wanted)
    if isinstance(told, Barred):
        return told
    if isinstance(told, Endless):
        return Fails(_numbers_below(told, wanted, total))
    if compare(told.value, total) < 0:
        return Fails(told.numbers)
    return Follows(told.weights)


def follows_from(rows, least, wanted, total):
    """Follows if all numbers that meet the task give `wanted` at least the total, else Fails; or Barred."""
    places = _check_task(rows, least)
    if not is_row(wanted, places):
        raise BadTask("wanted")
    if not is_ratio(total):
        raise BadTask("total")
    return _following(rows, least, wanted, total)


def needed_rows(rows, least):
    """The indices that remain when each row in turn is left out that follows from the other remaining ones."""
    _check_task(rows, least)
    remaining = list(range(len(rows)))
    for index in range(len(rows)):
        others = [other for other in remaining if other != index]
        told = _following([rows[k] for k in others], [least[k] for k in others], rows[index], least[index])
        if not isinstance(told, Fails):
            remaining = others
    return tuple(remaining)


def _met_rows(rows, least, numbers):
    """For each row, whether these numbers give it its least."""
    return [compare(dot(row, numbers), low) >= 0 for row, low in zip(rows, least)]


def _is_known_met(lot, known):
    """Whether all rows of the lot are met by some numbers found before."""
    return any([all([met[index] for index in lot]) for met in known])


def barred_lots(rows, least, *, kept=0):
    """Yields all least barred lots of the rows behind the kept ones."""
    places = _check_task(rows, least)
    if not is_whole(kept, 0, len(rows)):
        raise BadTask("kept")
    if len(rows) - kept > MOST_FREE:
        raise BadTask("free")
    known, barred = [], []
    for lot in all_lots(list(range(kept, len(rows)))):
        if holds_one_of(lot, barred) or _is_known_met(lot, known):
            continue
        chosen = list(range(kept)) + list(lot)
        told = _met([rows[k] for k in chosen], [least[k] for k in chosen], places)
        if isinstance(told, Found):
            known.append(_met_rows(rows, least, told.numbers))
        else:
            barred.append(lot)
            yield lot
