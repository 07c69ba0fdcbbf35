"""Recipes and works: what makes a piece of a good, of labour and of goods."""

from leastlabour.errors import BadLabour, BadOrder, BadRecipe, BadSize, BadWorks, NoGood, NoRecipe
from leastlabour.ratios import ZERO, compare, is_ratio, is_row, is_sequence, is_whole, over, times, times_row

MOST_GOODS = 5
MOST_RECIPES = 12


def is_above_zero(thing):
    """Whether this is a ratio above 0."""
    return is_ratio(thing) and compare(thing, ZERO) > 0


def is_order(thing, goods):
    """Whether this is a sequence of 0 to goods - 1, each once."""
    if not is_sequence(thing) or not all([is_whole(place) for place in thing]):
        return False
    return sorted(thing) == list(range(goods))


def is_short_row(thing):
    """Whether this is a row from 0 on for 1 to MOST_GOODS goods."""
    return is_sequence(thing) and 1 <= len(thing) <= MOST_GOODS and is_row(thing, len(thing), ZERO)


def check_many(goods, recipes, most):
    """Raises BadWorks unless works may have so many goods and these are a sequence of at most so many recipes."""
    if not is_whole(goods, 1, MOST_GOODS):
        raise BadWorks(0, "goods")
    if not is_sequence(recipes) or len(recipes) > most:
        raise BadWorks(0, "many")


def all_but(recipes, number):
    """The recipes without the one of this number."""
    if not is_whole(number, 0, len(recipes) - 1):
        raise NoRecipe(number)
    return recipes[:number] + recipes[number + 1:]


class Recipe:
    """Makes one piece of its good by its labour and by what it eats."""

    def __init__(self, good, labour, eats):
        if not is_whole(good, 0, MOST_GOODS - 1):
            raise BadRecipe("good")
        if not is_above_zero(labour):
            raise BadRecipe("labour")
        if not is_short_row(eats):
            raise BadRecipe("eats")
        if good >= len(eats):
            raise BadRecipe("place")
        self.good = good
        self.labour = labour
        self.eats = tuple(eats)

    def __eq__(self, other):
        return (isinstance(other, Recipe) and self.good == other.good and self.labour == other.labour
                and self.eats == other.eats)


class Works:
    """Numbered recipes of so many goods."""

    def __init__(self, goods, recipes):
        check_many(goods, recipes, MOST_RECIPES)
        for index, recipe in enumerate(recipes):
            if not isinstance(recipe, Recipe):
                raise BadWorks(index, "recipe")
            if len(recipe.eats) != goods:
                raise BadWorks(index, "eats")
        self.goods = goods
        self.recipes = tuple(recipes)

    def __len__(self):
        return len(self.recipes)

    def __iter__(self):
        return iter(self.recipes)

    def __eq__(self, other):
        return isinstance(other, Works) and self.goods == other.goods and self.recipes == other.recipes

    def recipes_of(self, good):
        """The numbers of the recipes of the good, ascending."""
        if not is_whole(good, 0, self.goods - 1):
            raise NoGood(good)
        return tuple([number for number, recipe in enumerate(self.recipes) if recipe.good == good])

    def with_recipe(self, recipe):
        """The works with one more recipe, put last."""
        return Works(self.goods, self.recipes + (recipe,))

    def without_recipe(self, number):
        """The works without one recipe."""
        return Works(self.goods, all_but(self.recipes, number))

    def with_labour(self, number, labour):
        """The works with another labour for one recipe."""
        if not is_whole(number, 0, len(self.recipes) - 1):
            raise NoRecipe(number)
        if not is_above_zero(labour):
            raise BadLabour()
        old = self.recipes[number]
        changed = Recipe(old.good, labour, old.eats)
        return Works(self.goods, self.recipes[:number] + (changed,) + self.recipes[number + 1:])

    def renamed(self, order):
        """The works in which order[g] is the new number of good g."""
        if not is_order(order, self.goods):
            raise BadOrder()
        return Works(self.goods, [_renamed_recipe(recipe, order) for recipe in self.recipes])

    def scaled_good(self, good, size):
        """The works in which a new piece of the good is `size` old pieces."""
        if not is_whole(good, 0, self.goods - 1):
            raise NoGood(good)
        if not is_above_zero(size):
            raise BadSize()
        return Works(self.goods, [_scaled_recipe(recipe, good, size) for recipe in self.recipes])

    def times_labour(self, size):
        """The works with each labour times the size."""
        if not is_above_zero(size):
            raise BadSize()
        changed = [Recipe(recipe.good, times(recipe.labour, size), recipe.eats) for recipe in self.recipes]
        return Works(self.goods, changed)


def _renamed_recipe(recipe, order):
    """The recipe with its goods renamed."""
    eats = [ZERO] * len(order)
    for good, amount in enumerate(recipe.eats):
        eats[order[good]] = amount
    return Recipe(order[recipe.good], recipe.labour, eats)


def _scaled_recipe(recipe, good, size):
    """The recipe where a new piece of the good is `size` old ones."""
    labour, eats = recipe.labour, recipe.eats
    if recipe.good == good:
        labour, eats = times(labour, size), times_row(eats, size)
    return Recipe(recipe.good, labour, eats[:good] + (over(eats[good], size),) + eats[good + 1:])
