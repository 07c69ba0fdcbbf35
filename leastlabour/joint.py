"""Recipes that make several goods at once, and works of them."""

from leastlabour.errors import BadPrices, BadRecipe, BadWorks
from leastlabour.ratios import (ZERO, compare, dot, is_at_least, is_ratio_from, is_row, is_sequence, minus, plus,
                                plus_rows, times_row)
from leastlabour.wishes import check_amounts, check_wish, piece_of
from leastlabour.works import check_many, is_above_zero, is_short_row

MOST_JOINT = 8


class JointRecipe:
    """Makes a row of goods at once by its labour and by what it eats."""

    def __init__(self, labour, eats, makes):
        if not is_above_zero(labour):
            raise BadRecipe("labour")
        if not is_short_row(eats):
            raise BadRecipe("eats")
        if not is_row(makes, len(eats), ZERO):
            raise BadRecipe("makes")
        if all([made == ZERO for made in makes]):
            raise BadRecipe("nothing")
        self.labour = labour
        self.eats = tuple(eats)
        self.makes = tuple(makes)

    def __eq__(self, other):
        return (isinstance(other, JointRecipe) and self.labour == other.labour and self.eats == other.eats
                and self.makes == other.makes)


class JointWorks:
    """Numbered joint recipes of so many goods."""

    def __init__(self, goods, recipes):
        check_many(goods, recipes, MOST_JOINT)
        for index, recipe in enumerate(recipes):
            if not isinstance(recipe, JointRecipe):
                raise BadWorks(index, "recipe")
            if len(recipe.eats) != goods:
                raise BadWorks(index, "eats")
        self.goods = goods
        self.recipes = tuple(recipes)

    def __len__(self):
        return len(self.recipes)

    def __iter__(self):
        return iter(self.recipes)

    def __eq__(self, other):
        return isinstance(other, JointWorks) and self.goods == other.goods and self.recipes == other.recipes


def as_joint(works):
    """The joint works in which each recipe makes one piece of its good."""
    recipes = [JointRecipe(recipe.labour, recipe.eats, piece_of(works.goods, recipe.good)) for recipe in works.recipes]
    return JointWorks(works.goods, recipes)


def left_of(recipe):
    """What the joint recipe makes less what it eats, good by good."""
    return tuple([minus(made, eaten) for made, eaten in zip(recipe.makes, recipe.eats)])


def left_over(works, amounts):
    """What the amounts make less what they eat, for right amounts."""
    net = (ZERO,) * works.goods
    for amount, recipe in zip(amounts, works.recipes):
        net = plus_rows(net, times_row(left_of(recipe), amount))
    return net


def joint_net(works, amounts):
    """What the amounts make less what they eat, good by good."""
    return left_over(works, check_amounts(works, amounts))


def joint_serves(works, amounts, wish):
    """Whether the amounts leave at least the wish."""
    net = joint_net(works, amounts)
    return is_at_least(net, check_wish(works.goods, wish))


def joint_gap(recipe, prices):
    """Labour and what is eaten, priced, less what is made, priced."""
    return minus(plus(recipe.labour, dot(recipe.eats, prices)), dot(recipe.makes, prices))


def first_undercut(works, prices):
    """None or the number of the first recipe that undercuts right prices."""
    for number, recipe in enumerate(works.recipes):
        if compare(joint_gap(recipe, prices), ZERO) < 0:
            return number
    return None


def joint_undercut(works, prices):
    """None or the number of the first recipe that undercuts these prices."""
    if not is_sequence(prices) or len(prices) != works.goods:
        raise BadPrices("length")
    if not all([is_ratio_from(price, ZERO) for price in prices]):
        raise BadPrices("price")
    return first_undercut(works, prices)
