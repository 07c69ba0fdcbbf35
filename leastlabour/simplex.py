"""Tasks solved exactly, step by step, in a table of whole numbers."""

from leastlabour.ratios import ZERO, make_ratio, negative
from leastlabour.weights import in_lowest, whole_row


class Table:
    """A task with costs, written by as many of its numbers as it has places.

    The numbers 0 to places - 1 are those of the places; behind them comes, for each row, what it has above its least.
    A line tells the number beside it: `scale` times it is the sum of the line's entries times the numbers above their
    columns, and the last entry. `costs` tells the costs in the same way. `helps` tells costs that are nowhere below
    0: they lead the steps until all lines are met.
    """

    def __init__(self, rows, least, costs):
        told = [whole_row(list(row) + [negative(low)]) for row, low in zip(rows, least)]
        self.places = len(costs)
        self.lines = [line for line, _ in told]
        self.sizes = [size for _, size in told]
        self.costs, self.cost_size = whole_row(list(costs) + [ZERO])
        self.helps = [cost if cost > 0 else 1 for cost in self.costs[:-1]] + [0]
        self.above = list(range(self.places))
        self.beside = list(range(self.places, self.places + len(told)))
        self.scale = 1
        self.steps = 0

    def turn(self, at, by):
        """Lets the number beside line `at` and the number above column `by` change places."""
        line = self.lines[at]
        scale = self.scale
        self.helps = _turned(self.helps, line, by, scale)
        self.costs = _turned(self.costs, line, by, scale)
        self.lines = [_turned(other, line, by, scale) for other in self.lines]
        sign = 1 if line[by] > 0 else -1
        fresh = [-sign * entry for entry in line]
        fresh[by] = sign * scale
        self.lines[at] = fresh
        self.scale = abs(line[by])
        self.beside[at], self.above[by] = self.above[by], self.beside[at]
        self.steps = self.steps + 1

    def is_long(self):
        """Whether so many steps were done that they may go in a ring: from then on the least numbers go first."""
        return self.steps > 5 * (self.places + len(self.lines))


def _turned(other, line, by, scale):
    """Another line behind a turn of `line` at column `by`: whole again, since its entries are determinants."""
    size = abs(line[by])
    part = other[by] if line[by] > 0 else -other[by]
    if part == 0:
        return [size * entry // scale for entry in other]
    fresh = [(size * entry - part * step) // scale for entry, step in zip(other, line)]
    fresh[by] = part
    return fresh


def _is_before(one, other):
    """Whether (top, bottom, name) is the lesser top / bottom, bottoms above 0, or of two equal ones the lesser name."""
    left = one[0] * other[1]
    right = other[0] * one[1]
    return left < right or (left == right and one[2] < other[2])


def _first_of(choices):
    """The index of the choice (top, bottom, name, index) that comes before all others, or None without choices."""
    if not choices:
        return None
    first = choices[0]
    for choice in choices:
        if _is_before(choice, first):
            first = choice
    return first[3]


def _lowest_line(table):
    """The line below 0 that is to be met next, or None."""
    names = table.beside
    if table.is_long():
        return _first_of([(names[at], 1, 0, at) for at, line in enumerate(table.lines) if line[-1] < 0])
    return _first_of([(line[-1], 1, names[at], at) for at, line in enumerate(table.lines) if line[-1] < 0])


def _raising_column(table, at):
    """The column that raises line `at` at the least help, or None."""
    line, helps, names = table.lines[at], table.helps, table.above
    return _first_of([(helps[by], line[by], names[by], by) for by in range(table.places) if line[by] > 0])


def _saving_column(table):
    """The column that is to lower the costs next, or None."""
    costs, names = table.costs, table.above
    if table.is_long():
        return _first_of([(names[by], 1, 0, by) for by in range(table.places) if costs[by] < 0])
    return _first_of([(costs[by], 1, names[by], by) for by in range(table.places) if costs[by] < 0])


def _first_stopped(table, by):
    """The line that first comes down to 0 as the number above column `by` rises, or None."""
    names = table.beside
    falling = [(at, line) for at, line in enumerate(table.lines) if line[by] < 0]
    return _first_of([(line[-1], -line[by], names[at], at) for at, line in falling])


def meet_lines(table):
    """Steps until all lines are met; returns None, or the line that bars this."""
    at = _lowest_line(table)
    while at is not None:
        by = _raising_column(table, at)
        if by is None:
            return at
        table.turn(at, by)
        at = _lowest_line(table)
    return None


def lower_costs(table):
    """Steps from met lines until the costs are least; returns None, or the column along which they have no least."""
    by = _saving_column(table)
    while by is not None:
        at = _first_stopped(table, by)
        if at is None:
            return by
        table.turn(at, by)
        by = _saving_column(table)
    return None


def numbers_in(table):
    """The numbers at the places."""
    numbers = [ZERO] * table.places
    for name, line in zip(table.beside, table.lines):
        if name < table.places:
            numbers[name] = make_ratio(line[-1], table.scale)
    return tuple(numbers)


def way_in(table, by):
    """The way of the places as the number above column `by` rises."""
    way = [0] * (table.places + len(table.lines))
    way[table.above[by]] = table.scale
    for name, line in zip(table.beside, table.lines):
        way[name] = line[by]
    return in_lowest(way[:table.places])


def barring_weights(table, at):
    """The weights of the rows by which line `at`, below 0 whatever the numbers are, bars the task."""
    weights = [0] * (table.places + len(table.lines))
    weights[table.beside[at]] = table.scale
    for name, entry in zip(table.above, table.lines[at]):
        weights[name] = -entry
    return in_lowest([weight * size for weight, size in zip(weights[table.places:], table.sizes)])


def cost_weights(table):
    """The weights of the rows that show the least costs."""
    weights = [0] * (table.places + len(table.lines))
    for name, entry in zip(table.above, table.costs):
        weights[name] = entry
    scale = table.scale * table.cost_size
    return tuple([make_ratio(weight * size, scale) for weight, size in zip(weights[table.places:], table.sizes)])
