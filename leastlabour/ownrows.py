"""Manners, one recipe a good: their own rows of prices and their amounts."""

from leastlabour.errors import BadManner, CannotMake, NotMade
from leastlabour.making import can_be_made, making_recipes
from leastlabour.ratios import ONE, ZERO, minus
from leastlabour.selfeating import self_eating
from leastlabour.systems import solve
from leastlabour.wishes import check_manner, check_wish, goods_of, others_of


class MannerRow:
    """The one row of prices of a manner that can make all its goods."""

    def __init__(self, prices):
        self.prices = prices

    def __eq__(self, other):
        return isinstance(other, MannerRow) and self.prices == other.prices


def manners_of(works):
    """Yields all manners of the works of making recipes, ascending."""
    making = making_recipes(works)
    manners = [()]
    for good in range(works.goods):
        choices = [number for number in making if works.recipes[number].good == good]
        entries = choices if choices else [None]
        manners = [manner + (entry,) for manner in manners for entry in entries]
    yield from manners


def check_whole(works, manner):
    """The manner of the works as a tuple."""
    told = check_manner(works, manner)
    if goods_of(told) != can_be_made(works):
        raise BadManner()
    return told


def _less_eaten(works, manner, goods):
    """For each good of the manner the row of 1 at itself less what its recipe eats of these goods."""
    rows = []
    for good in goods:
        eats = works.recipes[manner[good]].eats
        rows.append([minus(ONE if other == good else ZERO, eats[other]) for other in goods])
    return rows


def own_row(works, manner):
    """The prices of a manner that can make all its goods, None where it has None."""
    goods = goods_of(manner)
    prices = [None] * works.goods
    if goods:
        labours = [works.recipes[manner[good]].labour for good in goods]
        for good, price in zip(goods, solve(_less_eaten(works, manner, goods), labours).numbers):
            prices[good] = price
    return tuple(prices)


def makes_all(works, manner):
    """The MannerRow of a closed manner that can make all its goods, else the SelfEating of the others."""
    told = check_manner(works, manner)
    goods = goods_of(told)
    numbers = tuple(sorted([told[good] for good in goods]))
    unmade = self_eating(works, given=others_of(works.goods, goods), using=numbers)
    return MannerRow(own_row(works, told)) if unmade is None else unmade


def manner_amounts(works, manner, wish):
    """The one row of amounts of the manner's recipes that leave exactly the wish."""
    told = check_manner(works, manner)
    wished = check_wish(works.goods, wish)
    if not isinstance(makes_all(works, told), MannerRow):
        raise CannotMake()
    goods = goods_of(told)
    for good, many in enumerate(wished):
        if many != ZERO and good not in goods:
            raise NotMade(good)
    amounts = [ZERO] * len(works)
    if goods:
        rows = _less_eaten(works, told, goods)
        turned = [[row[place] for row in rows] for place in range(len(goods))]
        asked = [many for many, entry in zip(wished, told) if entry is not None]
        for good, amount in zip(goods, solve(turned, asked).numbers):
            amounts[told[good]] = amount
    return tuple(amounts)
