"""Works that cost the same for all wishes, and recipes without which they do."""

from leastlabour.errors import UnlikeGoods
from leastlabour.manners import best_manner
from leastlabour.prices import greatest_prices, tight_recipes
from leastlabour.ratios import is_lesser
from leastlabour.wishes import piece_of
from leastlabour.works import Works


def _check_goods(one, other):
    """Raises UnlikeGoods unless both works have as many goods."""
    if one.goods != other.goods:
        raise UnlikeGoods()


def _first_cheaper(row, others):
    """The first good with a price below the one in the other row, or None."""
    for good, price in enumerate(row):
        if is_lesser(price, others[good]):
            return good
    return None


def unlike_wish(one, other):
    """None if the works are alike, else one piece of the first good that does not cost the same."""
    _check_goods(one, other)
    for good, (price, cost) in enumerate(zip(greatest_prices(one), greatest_prices(other))):
        if price != cost:
            return piece_of(one.goods, good)
    return None


def dearer_good(one, other):
    """None if `one` is never dearer than the other works, else the first good at which it is."""
    _check_goods(one, other)
    return _first_cheaper(greatest_prices(other), greatest_prices(one))


def joined_works(one, other):
    """The works with the recipes of both."""
    _check_goods(one, other)
    return Works(one.goods, one.recipes + other.recipes)


def _lesser(one, other):
    """The lesser of two prices, the only one if one of them is None."""
    return one if is_lesser(one, other) else other


def joined_gain(one, other):
    """None if no good is cheaper in the joined works than in both, else the first one that is."""
    prices = greatest_prices(joined_works(one, other))
    apart = [_lesser(price, cost) for price, cost in zip(greatest_prices(one), greatest_prices(other))]
    return _first_cheaper(prices, apart)


def idle_recipes(works):
    """The ascending numbers of the recipes without each of which the works are alike to the works."""
    tight = tight_recipes(works)
    return tuple([number for number, recipe in enumerate(works.recipes) if tight[recipe.good] != (number,)])


def bare_works(works):
    """The works of the recipes of the best manner alone, in the order of their numbers."""
    manner = best_manner(works)
    return Works(works.goods, [recipe for number, recipe in enumerate(works.recipes) if number in manner])
