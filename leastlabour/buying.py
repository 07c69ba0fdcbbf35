"""Goods that are bought on a market, beside the recipes that make them."""

from leastlabour.errors import BadMarket
from leastlabour.manners import best_manner
from leastlabour.prices import greatest_prices
from leastlabour.ratios import ZERO, is_sequence
from leastlabour.wishes import check_good
from leastlabour.works import Recipe, Works, is_above_zero


def check_market(goods, market):
    """The market as a tuple."""
    if not is_sequence(market) or len(market) != goods:
        raise BadMarket(0, "length")
    for good, price in enumerate(market):
        if price is not None and not is_above_zero(price):
            raise BadMarket(good, "price")
    return tuple(market)


def _with_buying(works, market):
    """The works with a recipe that buys behind the others for each good that has a market price."""
    buying = [Recipe(good, price, [ZERO] * works.goods) for good, price in enumerate(market) if price is not None]
    return Works(works.goods, works.recipes + tuple(buying))


def with_market(works, market):
    """The works with the recipes that buy on this market."""
    return _with_buying(works, check_market(works.goods, market))


def made_or_bought(works, market):
    """For each good "made" or "bought", None for one that can neither be made nor be had so."""
    manner = best_manner(with_market(works, market))
    words = [None] * works.goods
    for good, number in enumerate(manner):
        if number is not None:
            words[good] = "made" if number < len(works) else "bought"
    return tuple(words)


def bought_until(works, market, good):
    """The greatest market price at which buying the good is tight, or None if it is bought at every price."""
    told = list(check_market(works.goods, market))
    told[check_good(works.goods, good)] = None
    return greatest_prices(_with_buying(works, told))[good]


def buys_nothing(works, market):
    """Whether no good is bought on this market."""
    return "bought" not in made_or_bought(works, market)
