"""Works judged by a plain going through of all manners and all lots, by fractions and without the program."""

from fractions import Fraction
from itertools import product

from tests.drawing import frac, fracs, lots_of, summed
from tests.sums import can_be_met, solution


def eaten_goods(recipe):
    return [good for good, amount in enumerate(recipe.eats) if amount[0]]


def plain_manners(works, given=(), using=None):
    """All manners outside the given goods whose recipes eat only given goods and goods of the manner."""
    choices = []
    for good in range(works.goods):
        own = [number for number, recipe in enumerate(works.recipes)
               if recipe.good == good and (using is None or number in using)]
        choices.append([None] + ([] if good in given else own))
    for manner in product(*choices):
        lot = [good for good in range(works.goods) if manner[good] is not None]
        had = lot + list(given)
        if all(set(eaten_goods(works.recipes[manner[good]])) <= set(had) for good in lot):
            yield manner


def plain_row(works, manner):
    """The own prices of a manner as fractions at its goods, or None if it cannot make them all."""
    lot = [good for good in range(works.goods) if manner[good] is not None]
    recipes = [works.recipes[manner[good]] for good in lot]
    rows = [[int(good == other) - frac(recipe.eats[other]) for other in lot] for good, recipe in zip(lot, recipes)]
    prices = solution(rows, [frac(recipe.labour) for recipe in recipes])
    if prices is None or any(price < 0 for price in prices):
        return None
    return dict(zip(lot, prices))


def plain_made(works, given=(), using=None):
    """The goods outside `given` that some manner makes."""
    made = set()
    for manner in plain_manners(works, given, using):
        row = plain_row(works, manner)
        if row is not None:
            made |= set(row)
    return tuple(sorted(made))


def plain_whole(works):
    """All manners that have a recipe at exactly the goods that can be made, ascending."""
    made = plain_made(works)
    found = [manner for manner in plain_manners(works)
             if tuple(good for good in range(works.goods) if manner[good] is not None) == made]
    return sorted(found, key=lambda manner: [-1 if entry is None else entry for entry in manner])


def plain_self_eating(works, lot):
    """Whether weights above 0 at exactly the goods of the lot are self-eating, by leaving out places."""
    if not lot:
        return False
    rows, least = [], []
    for recipe in works.recipes:
        rows.append([frac(recipe.eats[good]) - int(recipe.good == good) for good in lot])
        least.append(0)
    for good in lot:
        rows.append([int(other == good) for other in lot])
        least.append(1)
    return can_be_met(rows, least)


def plain_self_eating_lots(works):
    return [lot for lot in lots_of(works.goods) if plain_self_eating(works, lot)]


def plain_closure(works, pinch):
    """The least lot that holds the pinch and all goods made of it, by going through all lots."""
    kept = []
    for lot in lots_of(works.goods):
        made = {recipe.good for recipe in works.recipes if set(eaten_goods(recipe)) <= set(lot)}
        if set(pinch) <= set(lot) and made <= set(lot):
            kept.append(set(lot))
    return tuple(sorted(set.intersection(*kept)))


def plain_greatest(works):
    """The least price of each good over all manners that make all goods that can be made."""
    rows = [plain_row(works, manner) for manner in plain_whole(works)]
    rows = [row for row in rows if row is not None]
    return [min((row[good] for row in rows if good in row), default=None) for good in range(works.goods)]


def plain_net(works, amounts):
    """What amounts leave, as fractions."""
    net = [Fraction(0)] * works.goods
    for amount, recipe in zip(amounts, works.recipes):
        net[recipe.good] += frac(amount)
        for good in range(works.goods):
            net[good] -= frac(amount) * frac(recipe.eats[good])
    return net


def plain_play(works, stock, plan):
    """The stock behind a plan, played use by use and time by time, or the place at which it stops."""
    held = fracs(stock)
    for index, (number, amount) in enumerate(plan.starts):
        recipe = works.recipes[number]
        held = [has - frac(amount) * frac(eats) for has, eats in zip(held, recipe.eats)]
        if min(held) < 0:
            return ("start", index)
        held[recipe.good] += frac(amount)
    for index, (amounts, many) in enumerate(plan.turns):
        for _ in range(many):
            for amount, recipe in zip(amounts, works.recipes):
                held = [has - frac(amount) * frac(eats) for has, eats in zip(held, recipe.eats)]
            if min(held) < 0:
                return ("turn", index)
            for amount, recipe in zip(amounts, works.recipes):
                held[recipe.good] += frac(amount)
    return held


def loses(works, weights, numbers=None):
    """Whether one of the recipes eats less weight than its piece weighs."""
    return any(summed(fracs(recipe.eats), weights) < weights[recipe.good]
               for number, recipe in enumerate(works.recipes) if numbers is None or number in numbers)
