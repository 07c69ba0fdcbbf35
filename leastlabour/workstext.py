"""Texts of rows, recipes and works, and their readers."""

from leastlabour.errors import BadText
from leastlabour.ratios import ZERO, compare, ratio_text, read_ratio
from leastlabour.works import MOST_GOODS, MOST_RECIPES, Recipe, Works, is_above_zero


def row_text(row):
    """The row as a text, such as "1/2 of 0 + 2 of 2"."""
    parts = [f"{ratio_text(one)} of {good}" for good, one in enumerate(row) if one != ZERO]
    return " + ".join(parts) if parts else "nothing"


def with_eaten(head, eats):
    """The text of a recipe: its head, and what it eats, if it eats anything."""
    return head if all([one == ZERO for one in eats]) else f"{head} + {row_text(eats)}"


def recipe_text(recipe):
    """The recipe as a text, such as "0: 1 + 1/2 of 1"."""
    return with_eaten(f"{recipe.good}: {ratio_text(recipe.labour)}", recipe.eats)


def works_text(works):
    """The works as a text: the number of goods, then a row for each recipe."""
    return "\n".join([f"goods {works.goods}"] + [recipe_text(recipe) for recipe in works.recipes])


def read_good(goods, text):
    """The good that is shown as this very string, or None."""
    for good in range(goods):
        if text == f"{good}":
            return good
    return None


def read_row(goods, text):
    """The row that is shown as this very string, or None."""
    row = [ZERO] * goods
    for part in text.split(" + ") if text != "nothing" else []:
        many_text, _, good_text = part.partition(" of ")
        many = read_ratio(many_text)
        good = read_good(goods, good_text)
        if many is None or good is None or compare(many, ZERO) < 0:
            return None
        row[good] = many
    # Goods out of order, goods told twice and entries of 0 are shown otherwise.
    return tuple(row) if row_text(row) == text else None


def row_of(goods, text):
    """The row that is shown as this very text."""
    row = read_row(goods, text) if isinstance(text, str) else None
    if row is None:
        raise BadText(0, "row")
    return row


def _read_recipe(goods, text):
    """The recipe that is shown as this very string, or None."""
    good_text, _, rest = text.partition(": ")
    labour_text, _, eats_text = rest.partition(" + ")
    good = read_good(goods, good_text)
    labour = read_ratio(labour_text)
    eats = read_row(goods, eats_text if eats_text else "nothing")
    if good is None or eats is None or not is_above_zero(labour):
        return None
    recipe = Recipe(good, labour, eats)
    return recipe if recipe_text(recipe) == text else None


def recipe_of(goods, text):
    """The recipe that is shown as this very text."""
    recipe = _read_recipe(goods, text) if isinstance(text, str) else None
    if recipe is None:
        raise BadText(0, "recipe")
    return recipe


def read_goods(text):
    """The number of goods that the first row of a text of works shows, or None."""
    for goods in range(1, MOST_GOODS + 1):
        if text == f"goods {goods}":
            return goods
    return None


def read_rows(text, reader, most):
    """The number of goods that a text shows, and the recipes, at most so many, that the reader reads in its rows."""
    if not isinstance(text, str):
        raise BadText(0, "text")
    rows = text.split("\n")
    goods = read_goods(rows[0])
    if goods is None:
        raise BadText(0, "goods")
    recipes = []
    for number, row in enumerate(rows[1:], start=1):
        recipe = reader(goods, row)
        if recipe is None:
            raise BadText(number, "recipe")
        recipes.append(recipe)
    if len(recipes) > most:
        raise BadText(0, "many")
    return goods, recipes


def works_of(text):
    """The works that are shown as this very text."""
    goods, recipes = read_rows(text, _read_recipe, MOST_RECIPES)
    return Works(goods, recipes)
