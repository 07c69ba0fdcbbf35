"""The shortest list of let prices that tells the least labour of every wish of joint recipes."""

from math import lcm

from leastlabour.joint import first_undercut, joint_gap, left_of
from leastlabour.jointserve import joint_made
from leastlabour.lots import all_lots
from leastlabour.ratios import (ONE, ZERO, compare, dot, greatest_of, is_at_least, least_of, minus, plus, sum_of,
                                times)
from leastlabour.systems import Solved, solve
from leastlabour.tasks import Found, find_from
from leastlabour.weights import whole_row
from leastlabour.wishes import check_good, check_wish, check_wished


class PriceRow:
    """Let prices, and a wish that is worth more at them than at all other rows of the list."""

    def __init__(self, prices, wish):
        self.prices = prices
        self.wish = wish

    def __eq__(self, other):
        return isinstance(other, PriceRow) and self.prices == other.prices and self.wish == other.wish


def check_all_made(works):
    """Raises NotMade with the least good that cannot be made."""
    check_wished([ONE] * works.goods, joint_made(works))


def _leave_all(goods, rows):
    """Whether each good is left over by one of the rows of what recipes leave."""
    return all([any([compare(row[good], ZERO) > 0 for row in rows]) for good in range(goods)])


def _corner_by(goods, rows, labours, priced):
    """The prices, 0 outside the priced goods, at which these rows are worth just their labours, or None."""
    told = solve([[row[good] for good in priced] for row in rows], labours)
    if not isinstance(told, Solved) or not is_at_least(told.numbers, [ZERO] * len(priced)):
        return None
    prices = [ZERO] * goods
    for good, price in zip(priced, told.numbers):
        prices[good] = price
    return tuple(prices)


def _corners(works):
    """Corners of the let prices, each once: all that a wish above 0 of each good may need, perhaps more.

    Where such a wish needs a corner, recipes that are tight there serve it: each good is left over by one of them.
    """
    goods = list(range(works.goods))
    found = {}
    for numbers in all_lots(list(range(len(works)))):
        rows = [left_of(works.recipes[number]) for number in numbers]
        if len(numbers) > works.goods or not _leave_all(works.goods, rows):
            continue
        labours = [works.recipes[number].labour for number in numbers]
        for priced in all_lots(goods):
            prices = _corner_by(works.goods, rows, labours, priced) if len(priced) == len(numbers) else None
            if prices is not None and prices not in found and first_undercut(works, prices) is None:
                found[prices] = True
    return list(found)


def _wish_for(works, prices):
    """A wish that is worth more at this corner than at all other let prices, or None if there is none above 0."""
    tight = [left_of(recipe) for recipe in works.recipes if joint_gap(recipe, prices) == ZERO]
    # What all tight recipes leave together, each with an amount above 0, is such a wish; but of each good of price 0
    # the wish is for less than that. Amounts may be multiplied: each is 1 or more, and so is all that they leave.
    columns = [[row[good] for row in tight] for good in range(works.goods)]
    told = find_from(columns, [minus(ONE, sum_of(column)) for column in columns])
    if not isinstance(told, Found):
        return None
    amounts = [plus(ONE, number) for number in told.numbers]
    wish = [dot(column, amounts) for column in columns]
    return tuple([times(many, (1, 2)) if price == ZERO else many for many, price in zip(wish, prices)])


def _ascending(rows):
    """The rows of ratios in their order, compared by value."""
    size = 1
    for row in rows:
        size = lcm(size, whole_row(row)[1])
    told = sorted([([top * (size // bottom) for top, bottom in row], row) for row in rows])
    return [row for _, row in told]


def price_rows(works):
    """The one shortest list of rows of let prices the greatest worth at which is the least labour of every wish."""
    check_all_made(works)
    rows = []
    for prices in _ascending(_corners(works)):
        wish = _wish_for(works, prices)
        if wish is not None:
            rows.append(PriceRow(prices, wish))
    return tuple(rows)


def span_at(works, wish, good):
    """The least and the greatest price of the good in the rows at which the wish is worth its least labour."""
    rows = [row.prices for row in price_rows(works)]
    wished = check_wish(works.goods, wish)
    check_good(works.goods, good)
    worths = [dot(row, wished) for row in rows]
    labour = greatest_of(worths)
    prices = [row[good] for row, worth in zip(rows, worths) if worth == labour]
    return (None if wished[good] == ZERO else least_of(prices), greatest_of(prices))
