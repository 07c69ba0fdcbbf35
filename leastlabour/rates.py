"""Works at a rate of waste on top of all that is eaten."""

from leastlabour.errors import BadParts, BadRate
from leastlabour.making import can_be_made
from leastlabour.ownrows import can_make, own_row
from leastlabour.ratios import ONE, ZERO, is_ratio_from, is_whole, make_ratio, plus, times_row
from leastlabour.wishes import check_manner
from leastlabour.works import Recipe, Works

MOST_PARTS = 1000


def check_rate(rate):
    """The rate, if it is one."""
    if not is_ratio_from(rate, ZERO):
        raise BadRate()
    return rate


def at_rate(works, rate):
    """The works in which each recipe eats 1 + rate times as much."""
    size = plus(ONE, check_rate(rate))
    recipes = [Recipe(recipe.good, recipe.labour, times_row(recipe.eats, size)) for recipe in works.recipes]
    return Works(works.goods, recipes)


def does_run(works, rate):
    """Whether all goods that can be made at rate 0 can be made at this rate too."""
    wasting = at_rate(works, rate)
    return can_be_made(wasting) == can_be_made(works)


def runs_up_to(works, parts, most):
    """The greatest whole k up to `most` such that the works run at the rate k / parts."""
    if not is_whole(parts, 1, MOST_PARTS):
        raise BadParts("parts")
    if not is_whole(most, 0, MOST_PARTS):
        raise BadParts("most")
    runs, stops = 0, most + 1
    while stops - runs > 1:
        middle = (runs + stops) // 2
        if does_run(works, make_ratio(middle, parts)):
            runs = middle
        else:
            stops = middle
    return runs


def row_at_rate(works, manner, rate):
    """The own row of a closed manner at a right rate, or None if it cannot make there."""
    wasting = at_rate(works, rate)
    return own_row(wasting, manner) if can_make(wasting, manner) else None


def own_prices(works, manner, rate):
    """The own row of prices of a closed manner at the rate, or None if it cannot make there."""
    told = check_manner(works, manner)
    return row_at_rate(works, told, check_rate(rate))
