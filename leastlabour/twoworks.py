"""Works whose recipes take two labours that do not replace one another."""

from leastlabour.errors import BadRecipe, BadShare, BadWorks
from leastlabour.ownrows import can_make, row_by
from leastlabour.ratios import ONE, ZERO, compare, is_ratio, is_ratio_from, is_whole, minus, plus, times
from leastlabour.wishes import check_manner
from leastlabour.works import MOST_GOODS, MOST_RECIPES, Recipe, Works, all_but, check_many, is_short_row


class TwoRecipe:
    """Makes one piece of its good by a first and a second labour and by what it eats."""

    def __init__(self, good, first, second, eats):
        if not is_whole(good, 0, MOST_GOODS - 1):
            raise BadRecipe("good")
        if not is_ratio_from(first, ZERO):
            raise BadRecipe("first")
        if not is_ratio_from(second, ZERO):
            raise BadRecipe("second")
        if first == ZERO and second == ZERO:
            raise BadRecipe("both")
        if not is_short_row(eats):
            raise BadRecipe("eats")
        if good >= len(eats):
            raise BadRecipe("place")
        self.good = good
        self.first = first
        self.second = second
        self.eats = tuple(eats)

    def __eq__(self, other):
        return (isinstance(other, TwoRecipe) and self.good == other.good and self.first == other.first
                and self.second == other.second and self.eats == other.eats)


class TwoWorks:
    """Numbered recipes of two labours for so many goods."""

    def __init__(self, goods, recipes):
        check_many(goods, recipes, MOST_RECIPES)
        for index, recipe in enumerate(recipes):
            if not isinstance(recipe, TwoRecipe):
                raise BadWorks(index, "recipe")
            if len(recipe.eats) != goods:
                raise BadWorks(index, "eats")
        self.goods = goods
        self.recipes = tuple(recipes)

    def __len__(self):
        return len(self.recipes)

    def __iter__(self):
        return iter(self.recipes)

    def __eq__(self, other):
        return isinstance(other, TwoWorks) and self.goods == other.goods and self.recipes == other.recipes

    def swapped(self):
        """The two works in which first and second have changed places."""
        changed = [TwoRecipe(recipe.good, recipe.second, recipe.first, recipe.eats) for recipe in self.recipes]
        return TwoWorks(self.goods, changed)

    def with_recipe(self, recipe):
        """The two works with one more recipe, put last."""
        return TwoWorks(self.goods, self.recipes + (recipe,))

    def without_recipe(self, number):
        """The two works without one recipe."""
        return TwoWorks(self.goods, all_but(self.recipes, number))


def is_share(thing):
    """Whether this is a ratio from 0 to 1."""
    return is_ratio(thing) and compare(thing, ZERO) >= 0 and compare(thing, ONE) <= 0


def mixed(first, second, share):
    """(1 - share) * first + share * second."""
    return plus(times(minus(ONE, share), first), times(share, second))


def labours_at(two, share):
    """The labours of all recipes, mixed of both at the share."""
    return [mixed(recipe.first, recipe.second, share) for recipe in two.recipes]


def at_share(two, share):
    """The works whose labours are mixed of both at a share strictly between 0 and 1."""
    if not is_share(share) or share in (ZERO, ONE):
        raise BadShare()
    labours = labours_at(two, share)
    return Works(two.goods, [Recipe(recipe.good, labour, recipe.eats) for recipe, labour in zip(two, labours)])


def needs_by(two, manner):
    """The row of first and the row of second labours that one piece takes by a manner that can make."""
    firsts = row_by(two, manner, [recipe.first for recipe in two.recipes])
    seconds = row_by(two, manner, [recipe.second for recipe in two.recipes])
    return firsts, seconds


def own_needs(two, manner):
    """The two labours that one piece of each good takes by a closed manner, or None if it cannot make them all."""
    told = check_manner(two, manner)
    if not can_make(two, told):
        return None
    firsts, seconds = needs_by(two, told)
    return tuple([None if first is None else (first, second) for first, second in zip(firsts, seconds)])
