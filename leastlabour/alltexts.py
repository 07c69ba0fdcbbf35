"""Texts of works of two labours and of joint works, and their readers."""

from leastlabour.joint import MOST_JOINT, JointRecipe, JointWorks
from leastlabour.ratios import ZERO, is_ratio_from, ratio_text, read_ratio
from leastlabour.twoworks import TwoRecipe, TwoWorks
from leastlabour.works import MOST_RECIPES, is_above_zero
from leastlabour.workstext import read_good, read_row, read_rows, row_text, with_eaten


def _two_recipe_text(recipe):
    """The recipe as a text, such as "0: 1, 2 + 1/2 of 1"."""
    head = f"{recipe.good}: {ratio_text(recipe.first)}, {ratio_text(recipe.second)}"
    return with_eaten(head, recipe.eats)


def _joint_recipe_text(recipe):
    """The recipe as a text, such as "1 of 0 + 1/2 of 1 <- 2 + 1 of 0"."""
    return with_eaten(f"{row_text(recipe.makes)} <- {ratio_text(recipe.labour)}", recipe.eats)


def two_text(two):
    """The two works as a text: the number of goods, then a row for each recipe."""
    return "\n".join([f"goods {two.goods}"] + [_two_recipe_text(recipe) for recipe in two.recipes])


def joint_text(works):
    """The joint works as a text: the number of goods, then a row for each recipe."""
    return "\n".join([f"goods {works.goods}"] + [_joint_recipe_text(recipe) for recipe in works.recipes])


def _read_two(goods, text):
    """The recipe of two labours that is shown as this very string, or None."""
    good_text, _, rest = text.partition(": ")
    labours_text, _, eats_text = rest.partition(" + ")
    first_text, _, second_text = labours_text.partition(", ")
    good, first, second = read_good(goods, good_text), read_ratio(first_text), read_ratio(second_text)
    eats = read_row(goods, eats_text if eats_text else "nothing")
    if good is None or eats is None or not is_ratio_from(first, ZERO) or not is_ratio_from(second, ZERO):
        return None
    if first == ZERO and second == ZERO:
        return None
    recipe = TwoRecipe(good, first, second, eats)
    return recipe if _two_recipe_text(recipe) == text else None


def _read_joint(goods, text):
    """The joint recipe that is shown as this very string, or None."""
    makes_text, _, rest = text.partition(" <- ")
    labour_text, _, eats_text = rest.partition(" + ")
    makes, labour = read_row(goods, makes_text), read_ratio(labour_text)
    eats = read_row(goods, eats_text if eats_text else "nothing")
    if makes is None or makes == (ZERO,) * goods or eats is None or not is_above_zero(labour):
        return None
    recipe = JointRecipe(labour, eats, makes)
    return recipe if _joint_recipe_text(recipe) == text else None


def two_of(text):
    """The two works that are shown as this very text."""
    goods, recipes = read_rows(text, _read_two, MOST_RECIPES)
    return TwoWorks(goods, recipes)


def joint_of(text):
    """The joint works that are shown as this very text."""
    goods, recipes = read_rows(text, _read_joint, MOST_JOINT)
    return JointWorks(goods, recipes)
