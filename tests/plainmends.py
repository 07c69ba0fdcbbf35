"""Changes, goals and least choices told plainly, without the program's functions about them."""

from leastlabour.works import Recipe, Works
from tests.drawing import frac, fracs, lots_of, summed
from tests.plain import eaten_goods, plain_greatest


def plain_behind(works, pool, choice):
    """The works behind the changes at these places, and the numbers of their recipes in the pool."""
    told = []
    for number, recipe in enumerate(works):
        labours = [pool[at][2] for at in choice if pool[at][0] == "labour" and pool[at][1] == number]
        if any(pool[at][0] == "strike" and pool[at][1] == number for at in choice):
            continue
        labour = min(labours, key=frac) if labours else recipe.labour
        told.append((number, Recipe(recipe.good, labour, recipe.eats)))
    let = [at for at, change in enumerate(pool) if change[0] == "let"]
    told += [(len(works) + number, pool[at][1]) for number, at in enumerate(let) if at in choice]
    return Works(works.goods, [recipe for _, recipe in told]), [number for number, _ in told]


class Behind:
    """What stands behind each choice of a pool."""

    def __init__(self, works, pool):
        self.told = {}
        for choice in lots_of(len(pool)):
            changed, numbers = plain_behind(works, pool, choice)
            prices = plain_greatest(changed)
            used = [number for number, recipe in zip(numbers, changed) if is_tight(recipe, prices)]
            self.told[choice] = (prices, used)

    def first_unmet(self, choice, goals):
        prices, used = self.told[choice]
        for index, goal in enumerate(goals):
            if not is_met(goal, prices, used):
                return index
        return None

    def least(self, goals):
        """All good choices within which no other good choice lies."""
        good = [choice for choice in self.told if self.first_unmet(choice, goals) is None]
        return [choice for choice in good if not any(set(other) < set(choice) for other in good)]


def is_tight(recipe, prices):
    if prices[recipe.good] is None or any(prices[good] is None for good in eaten_goods(recipe)):
        return False
    eaten = summed(fracs(recipe.eats), [price or 0 for price in prices])
    return prices[recipe.good] == frac(recipe.labour) + eaten


def is_met(goal, prices, used):
    if goal[0] == "used":
        return goal[1] in used
    price = prices[goal[1]]
    if goal[0] == "made":
        return price is not None
    if goal[0] == "at most":
        return price is not None and price <= frac(goal[2])
    other = prices[goal[2]]
    return price is not None and other is not None and price > other
