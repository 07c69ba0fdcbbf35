"""Changes of works, put on them at once."""

from leastlabour.errors import BadChange
from leastlabour.ratios import is_sequence, is_whole, least_of
from leastlabour.works import MOST_RECIPES, Recipe, Works, is_above_zero


def _is_change(thing):
    """Whether this is a sequence with one of the three words first and as many entries as it has."""
    if not is_sequence(thing) or not thing:
        return False
    return thing[0] in ("let", "strike", "labour") and len(thing) == (3 if thing[0] == "labour" else 2)


def _check_let(works, index, recipe, many):
    """Raises BadChange unless the recipe can be let in beside so many recipes."""
    if not isinstance(recipe, Recipe) or len(recipe.eats) != works.goods:
        raise BadChange(index, "recipe")
    if many >= MOST_RECIPES:
        raise BadChange(index, "many")


def check_changes(works, changes):
    """The changes as a tuple of tuples."""
    if not is_sequence(changes):
        raise BadChange(0, "sequence")
    many = len(works)
    for index, change in enumerate(changes):
        if not _is_change(change):
            raise BadChange(index, "change")
        if change[0] == "let":
            _check_let(works, index, change[1], many)
            many += 1
        elif not is_whole(change[1], 0, len(works) - 1):
            raise BadChange(index, "number")
        elif change[0] == "labour" and not is_above_zero(change[2]):
            raise BadChange(index, "labour")
    return tuple([tuple(change) for change in changes])


def _changed(works, changes, number):
    """The recipe of the works of this number behind right changes, or None if it is struck."""
    if ("strike", number) in changes:
        return None
    recipe = works.recipes[number]
    labours = [change[2] for change in changes if change[:2] == ("labour", number)]
    return Recipe(recipe.good, least_of(labours), recipe.eats) if labours else recipe


def numbered_behind(works, changes, choice):
    """The recipes behind the right changes at these places, each with its number in the whole sequence of changes."""
    chosen = [changes[place] for place in choice]
    told = [(number, _changed(works, chosen, number)) for number in range(len(works))]
    number = len(works)
    for place, change in enumerate(changes):
        if change[0] == "let":
            told.append((number, change[1] if place in choice else None))
            number += 1
    return [(number, recipe) for number, recipe in told if recipe is not None]


def _all_behind(works, changes):
    """The recipes behind all changes, each with its number."""
    told = check_changes(works, changes)
    return numbered_behind(works, told, list(range(len(told))))


def apply_changes(works, changes):
    """The works behind the changes."""
    return Works(works.goods, [recipe for _, recipe in _all_behind(works, changes)])


def numbers_behind(works, changes):
    """The numbers of the recipes behind the changes: those of the works, then the let ones of the sequence."""
    return tuple([number for number, _ in _all_behind(works, changes)])
