"""Checks of what is asked of works, and what amounts of recipes leave and need."""

from leastlabour.errors import BadAmounts, BadLot, BadManner, BadOrder, BadWish, NoGood, NotMade
from leastlabour.ratios import ONE, ZERO, dot, is_at_least, is_row, is_sequence, is_whole, minus, plus, times
from leastlabour.works import is_order


def check_good(goods, good):
    """The good, if it is one."""
    if not is_whole(good, 0, goods - 1):
        raise NoGood(good)
    return good


def check_wish(goods, wish):
    """The wish as a tuple."""
    if not is_row(wish, goods, ZERO):
        raise BadWish()
    return tuple(wish)


def check_wished(wish, made):
    """Raises NotMade with the least good that a right wish asks and that is not among those made."""
    for good, many in enumerate(wish):
        if many != ZERO and good not in made:
            raise NotMade(good)


def check_amounts(works, amounts):
    """The amounts as a tuple; works of any class."""
    if not is_row(amounts, len(works), ZERO):
        raise BadAmounts()
    return tuple(amounts)


def is_ascending(thing, many):
    """Whether this is a sequence of numbers below `many`, ascending, none twice."""
    if not is_sequence(thing):
        return False
    if not all([is_whole(number, 0, many - 1) for number in thing]):
        return False
    return all([low < high for low, high in zip(thing, thing[1:])])


def check_lot(goods, lot):
    """The lot as a tuple."""
    if not is_ascending(lot, goods):
        raise BadLot()
    return tuple(lot)


def check_order(goods, order):
    """The order as a tuple."""
    if not is_order(order, goods):
        raise BadOrder()
    return tuple(order)


def _is_entry(works, good, entry):
    """Whether a manner may have this entry at the good."""
    if entry is None:
        return True
    return is_whole(entry, 0, len(works) - 1) and works.recipes[entry].good == good


def check_manner(works, manner):
    """The closed manner as a tuple."""
    if not is_sequence(manner) or len(manner) != works.goods:
        raise BadManner()
    if not all([_is_entry(works, good, entry) for good, entry in enumerate(manner)]):
        raise BadManner()
    lot = goods_of(manner)
    for good in lot:
        if not eats_within(works.recipes[manner[good]], lot):
            raise BadManner()
    return tuple(manner)


def goods_of(manner):
    """The lot of the goods at which the manner has a recipe."""
    return tuple([good for good, entry in enumerate(manner) if entry is not None])


def eats_within(recipe, lot):
    """Whether the recipe eats goods of this lot alone."""
    return all([amount == ZERO or good in lot for good, amount in enumerate(recipe.eats)])


def others_of(goods, lot):
    """The lot of all goods outside the lot."""
    return tuple([good for good in range(goods) if good not in lot])


def net_of(works, amounts):
    """What the amounts make less what they eat, good by good."""
    net = [ZERO] * works.goods
    for amount, recipe in zip(amounts, works.recipes):
        net[recipe.good] = plus(net[recipe.good], amount)
        for good, eaten in enumerate(recipe.eats):
            net[good] = minus(net[good], times(amount, eaten))
    return tuple(net)


def serves(works, amounts, wish):
    """Whether the amounts leave at least the wish."""
    return is_at_least(net_of(works, amounts), wish)


def labour_of(works, amounts):
    """The labour that the amounts take."""
    return dot(amounts, [recipe.labour for recipe in works.recipes])


def piece_of(goods, good):
    """The wish of one piece of the good."""
    return pieces_of(goods, (check_good(goods, good),))


def pieces_of(goods, lot):
    """The wish of one piece of each good of the lot."""
    wished = check_lot(goods, lot)
    return tuple([ONE if good in wished else ZERO for good in range(goods)])
