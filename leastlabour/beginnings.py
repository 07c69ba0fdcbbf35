"""What goods in hand let begin and grow, and the most that can ever be had of a good that does not grow."""

from leastlabour.errors import BadStock
from leastlabour.lots import all_lots, holds_all, holds_one_of
from leastlabour.making import can_be_made
from leastlabour.ratios import ONE, ZERO, is_row, minus
from leastlabour.selfeating import self_eating
from leastlabour.tasks import least_cost
from leastlabour.wishes import check_good, check_lot, check_wish, eats_within


class Ceiling:
    """The most of a good that can ever be had, a worth that shows it, and amounts that come to it."""

    def __init__(self, value, worth, amounts):
        self.value = value
        self.worth = worth
        self.amounts = amounts

    def __eq__(self, other):
        return (isinstance(other, Ceiling) and self.value == other.value and self.worth == other.worth
                and self.amounts == other.amounts)


def check_stock(works, stock):
    """The stock as a tuple."""
    if not is_row(stock, works.goods, ZERO):
        raise BadStock()
    return tuple(stock)


def pinch_of(stock):
    """The lot of the goods of which the stock has some."""
    return tuple([good for good, held in enumerate(stock) if held != ZERO])


def steps_from(works, pinch):
    """Step by step the goods not yet had some recipe of which eats only goods had before."""
    had = check_lot(works.goods, pinch)
    steps = []
    while True:
        made = [recipe.good for recipe in works.recipes if eats_within(recipe, had)]
        step = tuple([good for good in range(works.goods) if good in made and good not in had])
        if not step:
            return tuple(steps)
        steps.append(step)
        had = had + step


def closure(works, pinch):
    """The least lot that holds the pinch and each good some recipe of which eats goods of the lot alone."""
    had = list(check_lot(works.goods, pinch))
    for step in steps_from(works, pinch):
        had.extend(step)
    return tuple(sorted(had))


def usable_recipes(works, pinch):
    """The ascending numbers of the recipes that eat goods of the closure alone."""
    lot = closure(works, pinch)
    return tuple([number for number, recipe in enumerate(works.recipes) if eats_within(recipe, lot)])


def grown_from(works, pinch):
    """The goods that grow from the pinch."""
    return can_be_made(works, using=usable_recipes(works, pinch))


def begins(works, pinch, wish):
    """Whether each wished good grows from the pinch."""
    grown = grown_from(works, pinch)
    wished = check_wish(works.goods, wish)
    return all([many == ZERO or good in grown for good, many in enumerate(wished)])


def holding_weights(works, pinch):
    """None if all goods grow, else weights above 0 at those that do not, self-eating for the usable recipes."""
    told = self_eating(works, using=usable_recipes(works, pinch))
    return None if told is None else told.weights


def least_pinches(works):
    """The least lots from which every good that can be made grows, fewer goods first, then ascending."""
    made = can_be_made(works)
    least = []
    for pinch in all_lots(list(range(works.goods))):
        # All that can be made grows exactly if the closure holds it.
        if not holds_one_of(pinch, least) and holds_all(closure(works, pinch), made):
            least.append(pinch)
    return tuple(least)


def _worth_rows(works, good, numbers):
    """Rows of a worth: at least 1 at the good, and what each of the recipes eats at least as much as its piece."""
    rows = [[ONE if other == good else ZERO for other in range(works.goods)]]
    for number in numbers:
        recipe = works.recipes[number]
        rows.append([minus(eaten, ONE if other == recipe.good else ZERO) for other, eaten in enumerate(recipe.eats)])
    return rows


def most_ever(works, stock, good):
    """None if the good grows from the stock's pinch, else the Ceiling of what can ever be had of it."""
    held = check_stock(works, stock)
    check_good(works.goods, good)
    numbers = usable_recipes(works, pinch_of(held))
    if good in can_be_made(works, using=numbers):
        return None
    rows = _worth_rows(works, good, numbers)
    told = least_cost(rows, [ONE] + [ZERO] * len(numbers), held)
    # The weights of the recipes' rows are amounts: what they leave over is worth nothing more than the stock.
    amounts = [ZERO] * len(works)
    for number, amount in zip(numbers, told.weights[1:]):
        amounts[number] = amount
    return Ceiling(told.value, told.numbers, tuple(amounts))
