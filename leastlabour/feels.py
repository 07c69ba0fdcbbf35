"""How the greatest prices feel the labour of one recipe."""

from leastlabour.errors import BadRise, NoRecipe
from leastlabour.making import making_recipes
from leastlabour.manners import best_manner
from leastlabour.ownrows import own_row
from leastlabour.parts import parts_by
from leastlabour.prices import gap_by, greatest_prices, priced
from leastlabour.ratios import ZERO, compare, is_ratio_from, is_whole, least_of, minus, negative, over, plus


def _check_recipe(works, recipe):
    """Raises NoRecipe unless a recipe has this number."""
    if not is_whole(recipe, 0, len(works) - 1):
        raise NoRecipe(recipe)


def used_until(works, recipe):
    """The word "always" or "never", or "until" and the greatest labour of the recipe at which it is used."""
    _check_recipe(works, recipe)
    if recipe not in making_recipes(works):
        return ("never", None)
    told = works.recipes[recipe]
    prices = greatest_prices(works.without_recipe(recipe))
    if prices[told.good] is None:
        return ("always", None)
    labour = minus(prices[told.good], priced(told.eats, prices))
    return ("until", labour) if compare(labour, ZERO) > 0 else ("never", None)


def _bounds_by(works, manner, recipe):
    """The rises of the labour of a recipe of this best manner at which other recipes become tight."""
    prices = own_row(works, manner)
    # A piece of each good costs so much more as its amount of the recipe, for a labour that rises by 1.
    rises = [None if part is None else part[recipe] for part in parts_by(works, manner)]
    bounds = []
    for number in making_recipes(works):
        if number not in manner:
            told = works.recipes[number]
            slope = gap_by(told, ZERO, rises)
            if compare(slope, ZERO) < 0:
                bounds.append(over(gap_by(told, told.labour, prices), negative(slope)))
    return bounds


def stays_until(works, recipe):
    """The greatest labour of the recipe at which all recipes of the best manner stay tight, or None."""
    _check_recipe(works, recipe)
    manner = best_manner(works)
    if recipe not in manner:
        return None
    bounds = _bounds_by(works, manner, recipe)
    return plus(works.recipes[recipe].labour, least_of(bounds)) if bounds else None


def feels(works, recipe, rise):
    """For each good how much its greatest price rises with the labour of the recipe, None if it cannot be made."""
    _check_recipe(works, recipe)
    if not is_ratio_from(rise, ZERO):
        raise BadRise()
    old = greatest_prices(works)
    new = greatest_prices(works.with_labour(recipe, plus(works.recipes[recipe].labour, rise)))
    return tuple([None if price is None else minus(more, price) for price, more in zip(old, new)])
