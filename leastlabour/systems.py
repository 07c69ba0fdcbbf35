"""Systems of as many rows as places, solved exactly."""

from leastlabour.errors import BadTask
from leastlabour.ratios import is_row, is_sequence, make_ratio
from leastlabour.weights import in_lowest, whole_row

MOST_SYSTEM_ROWS = 6


class Solved:
    """The one row of numbers that gives each row its total."""

    def __init__(self, numbers):
        self.numbers = numbers

    def __eq__(self, other):
        return isinstance(other, Solved) and self.numbers == other.numbers


class Singular:
    """A way along which every row is 0."""

    def __init__(self, way):
        self.way = way

    def __eq__(self, other):
        return isinstance(other, Singular) and self.way == other.way


def _check_system(rows, totals):
    """Raises BadTask unless these are a system."""
    if not is_sequence(rows) or not 1 <= len(rows) <= MOST_SYSTEM_ROWS:
        raise BadTask("many")
    if not all([is_row(row, len(rows)) for row in rows]):
        raise BadTask("row")
    if not is_row(totals, len(rows)):
        raise BadTask("totals")


def _cleared(lines, at, scale):
    """The lines with column `at` cleared by line `at`: whole again, all on the new scale lines[at][at]."""
    line = lines[at]
    size = line[at]
    fresh = []
    for number, other in enumerate(lines):
        if number == at:
            fresh.append(line)
        else:
            part = other[at]
            fresh.append([(size * entry - part * step) // scale for entry, step in zip(other, line)])
    return fresh


def _way_of(lines, at, scale):
    """The way at which all rows are 0, for the first column that no line is left to clear by."""
    way = [0] * len(lines)
    way[at] = scale
    for place in range(at):
        way[place] = -lines[place][at]
    way = in_lowest(way)
    first = [number for number in way if number != 0][0]
    return way if first > 0 else tuple([-number for number in way])


def solve(rows, totals):
    """Solved with the one solution, or Singular with a way if there is not just one."""
    _check_system(rows, totals)
    lines = [whole_row(list(row) + [total])[0] for row, total in zip(rows, totals)]
    scale = 1
    for at in range(len(rows)):
        found = [number for number in range(at, len(rows)) if lines[number][at] != 0]
        if not found:
            return Singular(_way_of(lines, at, scale))
        lines[at], lines[found[0]] = lines[found[0]], lines[at]
        lines = _cleared(lines, at, scale)
        scale = lines[at][at]
    return Solved(tuple([make_ratio(line[-1], scale) for line in lines]))
