"""Best manners, and the way to them from any manner that makes all its goods."""

from leastlabour.lots import one_of_each
from leastlabour.ownrows import check_able, own_row, put_in
from leastlabour.prices import tight_recipes, undercuts


def best_manner(works):
    """The best manner with the least recipe number at each good."""
    return tuple([numbers[0] if numbers else None for numbers in tight_recipes(works)])


def all_best(works):
    """Yields all best manners, ascending."""
    yield from one_of_each(tight_recipes(works))


def _better(works, manner):
    """The improved manner of one that makes all its goods, or None if it is best."""
    numbers = undercuts(works, own_row(works, manner))
    return put_in(works, manner, numbers) if numbers else None


def improved(works, manner):
    """The manner with the least undercutting recipe at each good that has one, or None if it is best."""
    return _better(works, check_able(works, manner))


def steps_to_best(works, manner):
    """Yields the manner, then the improved manner, and so on until a best one."""
    told = check_able(works, manner)
    while told is not None:
        yield told
        told = _better(works, told)
