"""How much labour a recipe may need to be of use, or to keep a price down."""

from leastlabour.errors import BadLimit, BadRecipe
from leastlabour.making import can_be_made, making_recipes
from leastlabour.prices import greatest_prices, priced
from leastlabour.ratios import ONE, ZERO, compare, is_ratio, is_row, minus, negative
from leastlabour.tasks import Found, find_from, least_cost
from leastlabour.unknown import unit_row
from leastlabour.wishes import check_good, check_wished, eats_within, piece_of, pieces_of
from leastlabour.works import Recipe


def _left_rows(goods, recipes):
    """For each good the row of what one piece by each of the recipes leaves of it."""
    return [[minus(ONE if recipe.good == good else ZERO, recipe.eats[good]) for recipe in recipes]
            for good in range(goods)]


def room_for(works, good, eats):
    """The word "any" or "never", or "to" and the greatest labour at which a new recipe is of use."""
    check_good(works.goods, good)
    if not is_row(eats, works.goods, ZERO):
        raise BadRecipe("eats")
    recipe = Recipe(good, ONE, eats)
    made = can_be_made(works)
    if good not in made:
        # Works could be full already: the task alone has a place for one more recipe.
        rows = _left_rows(works.goods, works.recipes + (recipe,))
        return ("any",) if isinstance(find_from(rows, piece_of(works.goods, good)), Found) else ("never",)
    if not eats_within(recipe, made):
        return ("never",)
    prices = greatest_prices(works)
    room = minus(prices[good], priced(eats, prices))
    return ("to", room) if compare(room, ZERO) > 0 else ("never",)


def _least_reaching(works, number, good, ratio):
    """The least labour from 0 on of a making recipe at which the price of the good is the ratio or more.

    There is one if the price without the recipe is above the ratio or there is none.
    """
    rows, least = [], []
    for other in making_recipes(works):
        recipe = works.recipes[other]
        # A place for the labour, then one for each price: the recipe does not undercut the prices.
        eaten = [minus(many, one) for many, one in zip(recipe.eats, unit_row(works.goods, recipe.good))]
        rows.append([ONE if other == number else ZERO] + eaten)
        least.append(ZERO if other == number else negative(recipe.labour))
    rows.append([ZERO] + list(unit_row(works.goods, good)))
    least.append(ratio)
    return least_cost(rows, least, unit_row(1 + works.goods, 0)).value


def labour_limit(works, number, good, ratio):
    """The word "any" or "never", or "to" and the greatest labour at which the good's price is at most the ratio."""
    without = works.without_recipe(number)
    check_good(works.goods, good)
    check_wished(pieces_of(works.goods, (good,)), can_be_made(works))
    if not is_ratio(ratio):
        raise BadLimit()
    price = greatest_prices(without)[good]
    if price is not None and compare(price, ratio) <= 0:
        return ("any",)
    if number not in making_recipes(works):
        return ("never",)
    labour = _least_reaching(works, number, good, ratio)
    return ("to", labour) if compare(labour, ZERO) > 0 else ("never",)
