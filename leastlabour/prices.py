"""Rows of prices, what undercuts them, and the greatest row that nothing undercuts."""

from leastlabour.errors import BadPrices, NotMade
from leastlabour.making import can_be_made, making_recipes
from leastlabour.ratios import ONE, ZERO, compare, is_ratio, is_sequence, minus, plus, times
from leastlabour.tasks import most_gain
from leastlabour.wishes import check_wish


def price_fault(works, prices, made):
    """The first word that tells why these are no prices of works that can make these goods, or None."""
    if not is_sequence(prices) or len(prices) != works.goods:
        return "length"
    for good, price in enumerate(prices):
        if (price is None) == (good in made):
            return "none"
        if price is not None and not is_ratio(price):
            return "price"
    return None


def check_prices(works, prices):
    """The row of prices as a tuple."""
    word = price_fault(works, prices, can_be_made(works))
    if word is not None:
        raise BadPrices(word)
    return tuple(prices)


def priced(row, prices):
    """The worth of a row that is ZERO wherever the price is None."""
    total = ZERO
    for many, price in zip(row, prices):
        if many != ZERO:
            total = plus(total, times(many, price))
    return total


def gap_by(recipe, labour, prices):
    """This labour and what the recipe eats, priced, less the price of its good."""
    return minus(plus(labour, priced(recipe.eats, prices)), prices[recipe.good])


def _gaps_at(works, prices):
    """The gap of each recipe at right prices, None for one that is no making recipe."""
    making = making_recipes(works)
    return tuple([gap_by(recipe, recipe.labour, prices) if number in making else None
                  for number, recipe in enumerate(works.recipes)])


def _below_zero(gaps):
    """The ascending numbers of the gaps below 0."""
    return tuple([number for number, gap in enumerate(gaps) if gap is not None and compare(gap, ZERO) < 0])


def gaps_of(works, prices):
    """The gap of each recipe at these prices, None for one that is no making recipe."""
    return _gaps_at(works, check_prices(works, prices))


def undercuts(works, prices):
    """The ascending numbers of the recipes that undercut these prices."""
    return _below_zero(gaps_of(works, prices))


def is_let(works, prices):
    """Whether no recipe undercuts these prices."""
    return undercuts(works, prices) == ()


def greatest_prices(works):
    """The greatest row of prices that no recipe undercuts."""
    prices = [None] * works.goods
    made = can_be_made(works)
    if made:
        recipes = [works.recipes[number] for number in making_recipes(works)]
        rows = [[minus(ONE if other == recipe.good else ZERO, recipe.eats[other]) for other in made]
                for recipe in recipes]
        # The greatest row is above 0 and above all others, so it alone has the greatest sum.
        told = most_gain(rows, [recipe.labour for recipe in recipes], [ONE] * len(made))
        for good, price in zip(made, told.numbers):
            prices[good] = price
    return tuple(prices)


def _tight_of(works, gaps, good):
    """The ascending numbers of the recipes of the good whose gap is 0."""
    return tuple([number for number in works.recipes_of(good) if gaps[number] == ZERO])


def prices_fault(works, prices):
    """Judges whether these prices are the greatest row."""
    made = can_be_made(works)
    word = price_fault(works, prices, made)
    if word is not None:
        return word
    gaps = _gaps_at(works, prices)
    if _below_zero(gaps):
        return "undercut"
    if any([compare(prices[good], ZERO) <= 0 for good in made]):
        return "below"
    if any([_tight_of(works, gaps, good) == () for good in made]):
        return "loose"
    return None


def worth_of(works, prices, wish):
    """The worth of a wish at these prices."""
    row = check_prices(works, prices)
    wished = check_wish(works.goods, wish)
    for good, many in enumerate(wished):
        if many != ZERO and row[good] is None:
            raise NotMade(good)
    return priced(wished, row)


def tight_at(works, prices):
    """For each good the ascending numbers of its recipes that are tight at right prices."""
    gaps = _gaps_at(works, prices)
    return tuple([_tight_of(works, gaps, good) for good in range(works.goods)])


def tight_recipes(works):
    """For each good the ascending numbers of its recipes that are tight at the greatest row."""
    return tight_at(works, greatest_prices(works))
