"""Which goods can be made, and amounts of recipes that show it."""

from leastlabour.errors import BadNumbers, NotMade
from leastlabour.ratios import ONE, ZERO, compare, is_row, minus, plus_rows
from leastlabour.tasks import Found, find_from
from leastlabour.wishes import check_lot, eats_within, is_ascending, net_of, others_of


def check_using(works, using):
    """The numbers of the recipes that may be used as a tuple; None means all."""
    if using is None:
        return tuple(range(len(works)))
    if not is_ascending(using, len(works)):
        raise BadNumbers()
    return tuple(using)


def asked_of(works, given, using):
    """The goods outside `given`, and the numbers of the recipes that may be used for them."""
    gifts = check_lot(works.goods, given)
    numbers = check_using(works, using)
    left = [number for number in numbers if works.recipes[number].good not in gifts]
    return others_of(works.goods, gifts), tuple(left)


def net_rows(works, goods, numbers):
    """For each of the goods the row of what one piece by each of the recipes leaves of it."""
    # Without recipes one place of nothing stands in their place: a task has at least one.
    if not numbers:
        return [(ZERO,) for _ in goods]
    recipes = [works.recipes[number] for number in numbers]
    return [[minus(ONE if recipe.good == good else ZERO, recipe.eats[good]) for recipe in recipes] for good in goods]


def piece_answers(works, goods, numbers):
    """For each of the goods the answer whether these recipes leave a piece of it and none of the goods short."""
    rows = net_rows(works, goods, numbers)
    return [find_from(rows, [ONE if other == good else ZERO for other in goods]) for good in goods]


def can_be_made(works, *, given=(), using=None):
    """The lot of the goods outside `given` that can be made."""
    goods, numbers = asked_of(works, given, using)
    answers = piece_answers(works, goods, numbers)
    return tuple([good for good, answer in zip(goods, answers) if isinstance(answer, Found)])


def made_amounts(works, lot, *, given=(), using=None):
    """Amounts that leave a piece of each good of the lot and no good outside `given` short."""
    asked = check_lot(works.goods, lot)
    goods, numbers = asked_of(works, given, using)
    answers = dict(zip(goods, piece_answers(works, goods, numbers)))
    total = [ZERO] * len(numbers)
    for good in asked:
        answer = answers.get(good)
        if not isinstance(answer, Found):
            raise NotMade(good)
        total = plus_rows(total, answer.numbers)
    amounts = [ZERO] * len(works)
    for number, amount in zip(numbers, total):
        amounts[number] = amount
    return tuple(amounts)


def made_fault(works, lot, amounts, *, given=(), using=None):
    """Judges amounts of `made_amounts`."""
    asked = check_lot(works.goods, lot)
    goods, numbers = asked_of(works, given, using)
    if not is_row(amounts, len(works), ZERO):
        return "amounts"
    if any([amount != ZERO and number not in numbers for number, amount in enumerate(amounts)]):
        return "used"
    for good, left in enumerate(net_of(works, amounts)):
        if good in asked and compare(left, ONE) < 0:
            return "short"
        if good in goods and compare(left, ZERO) < 0:
            return "short"
    return None


def making_recipes(works):
    """The ascending numbers of the recipes of goods that can be made which eat only such goods."""
    made = can_be_made(works)
    return tuple([number for number, recipe in enumerate(works.recipes)
                  if recipe.good in made and eats_within(recipe, made)])
