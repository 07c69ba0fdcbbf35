"""Two lands that trade goods, each with its own labour."""

from leastlabour.errors import UnlikeGoods
from leastlabour.frontiers import least_first, least_second
from leastlabour.prices import greatest_prices
from leastlabour.ratios import ONE, ZERO, compare, minus, over, plus, plus_rows, times
from leastlabour.serving import least_labour
from leastlabour.twoworks import TwoRecipe, TwoWorks
from leastlabour.wishes import check_wish, check_wished


class Gain:
    """What two lands need alone, and what each saves with the other's help."""

    def __init__(self, first, second, saved_first, saved_second):
        self.first = first
        self.second = second
        self.saved_first = saved_first
        self.saved_second = saved_second

    def __eq__(self, other):
        return (isinstance(other, Gain) and self.first == other.first and self.second == other.second
                and self.saved_first == other.saved_first and self.saved_second == other.saved_second)


class Idle:
    """The share at which both lands have one row: trade gains nothing."""

    def __init__(self, share):
        self.share = share

    def __eq__(self, other):
        return isinstance(other, Idle) and self.share == other.share


class Pays:
    """The good that the one land sells and the good that the other land sells."""

    def __init__(self, one_sells, other_sells):
        self.one_sells = one_sells
        self.other_sells = other_sells

    def __eq__(self, other):
        return (isinstance(other, Pays) and self.one_sells == other.one_sells
                and self.other_sells == other.other_sells)


def two_lands(one, other):
    """The two works of both lands' recipes: the first labour is that of one, the second that of other."""
    if one.goods != other.goods:
        raise UnlikeGoods()
    ours = [TwoRecipe(recipe.good, recipe.labour, ZERO, recipe.eats) for recipe in one.recipes]
    theirs = [TwoRecipe(recipe.good, ZERO, recipe.labour, recipe.eats) for recipe in other.recipes]
    return TwoWorks(one.goods, ours + theirs)


def trade_gain(one, other, wish, other_wish):
    """The Gain of two lands that serve both their wishes together."""
    two = two_lands(one, other)
    wished = check_wish(one.goods, wish)
    other_wished = check_wish(other.goods, other_wish)
    first = least_labour(one, wished)
    second = least_labour(other, other_wished)
    both = plus_rows(wished, other_wished)
    saved_first = minus(first, least_first(two, both, second))
    saved_second = minus(second, least_second(two, both, first))
    return Gain(first, second, saved_first, saved_second)


def _row_of_all(works):
    """The greatest row of works in which all goods have to be made."""
    prices = greatest_prices(works)
    made = [good for good, price in enumerate(prices) if price is not None]
    check_wished([ONE] * works.goods, made)
    return prices


def compare_lands(one, other):
    """Idle if no wishes of the two lands gain anything, else Pays."""
    two_lands(one, other)
    ours, theirs = _row_of_all(one), _row_of_all(other)
    for low in range(one.goods):
        for high in range(low + 1, one.goods):
            sign = compare(times(ours[low], theirs[high]), times(ours[high], theirs[low]))
            if sign != 0:
                return Pays(low, high) if sign < 0 else Pays(high, low)
    return Idle(over(ours[0], plus(ours[0], theirs[0])))
