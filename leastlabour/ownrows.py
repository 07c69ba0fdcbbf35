"""Manners, one recipe a good: their own rows of prices and their amounts."""

from leastlabour.errors import BadManner, CannotMake
from leastlabour.lots import one_of_each
from leastlabour.making import can_be_made, making_recipes
from leastlabour.ratios import ONE, ZERO, is_row, minus
from leastlabour.selfeating import self_eating
from leastlabour.systems import Solved, solve
from leastlabour.wishes import check_manner, check_wish, check_wished, goods_of, others_of


class MannerRow:
    """The one row of prices of a manner that can make all its goods."""

    def __init__(self, prices):
        self.prices = prices

    def __eq__(self, other):
        return isinstance(other, MannerRow) and self.prices == other.prices


def manners_of(works):
    """Yields all manners of the works of making recipes, ascending."""
    making = making_recipes(works)
    yield from one_of_each([[number for number in making if works.recipes[number].good == good]
                            for good in range(works.goods)])


def check_whole(works, manner):
    """The manner of the works as a tuple."""
    told = check_manner(works, manner)
    if goods_of(told) != can_be_made(works):
        raise BadManner()
    return told


def check_able(works, manner):
    """The manner of the works that can make all its goods as a tuple."""
    told = check_whole(works, manner)
    if not can_make(works, told):
        raise CannotMake()
    return told


def _less_eaten(works, manner, goods):
    """For each good of the manner the row of 1 at itself less what its recipe eats of these goods."""
    rows = []
    for good in goods:
        eats = works.recipes[manner[good]].eats
        rows.append([minus(ONE if other == good else ZERO, eats[other]) for other in goods])
    return rows


def can_make(works, manner):
    """Whether a closed manner can make all its goods."""
    goods = goods_of(manner)
    if not goods:
        return True
    # Which labours above 0 are taken makes no difference: prices from 0 on are there for all of them or for none.
    told = solve(_less_eaten(works, manner, goods), [ONE] * len(goods))
    return isinstance(told, Solved) and is_row(told.numbers, len(goods), ZERO)


def row_by(works, manner, labours):
    """The row of labour + eats . row at each recipe of a manner that can make; labours has one a recipe."""
    goods = goods_of(manner)
    prices = [None] * works.goods
    if goods:
        totals = [labours[manner[good]] for good in goods]
        for good, price in zip(goods, solve(_less_eaten(works, manner, goods), totals).numbers):
            prices[good] = price
    return tuple(prices)


def own_row(works, manner):
    """The prices of a manner that can make all its goods, None where it has None."""
    return row_by(works, manner, [recipe.labour for recipe in works.recipes])


def makes_all(works, manner):
    """The MannerRow of a closed manner that can make all its goods, else the SelfEating of the others."""
    told = check_manner(works, manner)
    if can_make(works, told):
        return MannerRow(own_row(works, told))
    goods = goods_of(told)
    numbers = tuple(sorted([told[good] for good in goods]))
    return self_eating(works, given=others_of(works.goods, goods), using=numbers)


def amounts_by(works, manner, wish):
    """The amounts of a manner that can make that leave exactly the wish, which is ZERO where the manner is None."""
    goods = goods_of(manner)
    amounts = [ZERO] * len(works)
    if goods:
        rows = _less_eaten(works, manner, goods)
        turned = [[row[place] for row in rows] for place in range(len(goods))]
        for good, amount in zip(goods, solve(turned, [wish[good] for good in goods]).numbers):
            amounts[manner[good]] = amount
    return tuple(amounts)


def put_in(works, manner, numbers):
    """The manner with the least of these recipes, told ascending, at each good that has one."""
    changed = list(manner)
    for number in reversed(numbers):
        changed[works.recipes[number].good] = number
    return tuple(changed)


def manner_amounts(works, manner, wish):
    """The one row of amounts of the manner's recipes that leave exactly the wish."""
    told = check_manner(works, manner)
    wished = check_wish(works.goods, wish)
    if not can_make(works, told):
        raise CannotMake()
    check_wished(wished, goods_of(told))
    return amounts_by(works, told, wished)
