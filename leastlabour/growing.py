"""Stocks, uses of recipes, and plans that let a stock grow."""

from leastlabour.beginnings import (begins, check_stock, grown_from, holding_weights, pinch_of, steps_from,
                                    usable_recipes)
from leastlabour.errors import BadPlan
from leastlabour.making import made_amounts
from leastlabour.ratios import (ONE, ZERO, compare, is_at_least, is_ratio_from, is_row, is_sequence, is_whole,
                                least_of, minus, negative, over, plus_rows, times, times_row)
from leastlabour.wishes import check_wish, eats_within, net_of, piece_of


class Plan:
    """Uses of recipes one after another, then turns of all recipes at once."""

    def __init__(self, starts, turns):
        self.starts = starts
        self.turns = turns

    def __eq__(self, other):
        return isinstance(other, Plan) and self.starts == other.starts and self.turns == other.turns


class Stopped:
    """The first entry of a plan that the stock does not bear."""

    def __init__(self, where, index):
        self.where = where
        self.index = index

    def __eq__(self, other):
        return isinstance(other, Stopped) and self.where == other.where and self.index == other.index


class Held:
    """Weights that show that a wish can never be had from however small a stock."""

    def __init__(self, weights):
        self.weights = weights

    def __eq__(self, other):
        return isinstance(other, Held) and self.weights == other.weights


def _is_pair(thing):
    """Whether this is a sequence of two."""
    return is_sequence(thing) and len(thing) == 2


def _check_plan(works, plan):
    """Raises BadPlan unless the plan has right uses and turns of these works."""
    if not is_sequence(plan.starts):
        raise BadPlan(0, "starts")
    for index, use in enumerate(plan.starts):
        if not _is_pair(use) or not is_whole(use[0], 0, len(works) - 1) or not is_ratio_from(use[1], ZERO):
            raise BadPlan(index, "start")
    if not is_sequence(plan.turns):
        raise BadPlan(0, "turns")
    for index, turn in enumerate(plan.turns):
        if not _is_pair(turn) or not is_row(turn[0], len(works), ZERO) or not is_whole(turn[1], 1):
            raise BadPlan(index, "turn")


def _less(row, other):
    """The row less the other one."""
    return plus_rows(row, [negative(one) for one in other])


def _eaten_by(works, amounts):
    """What the amounts of all recipes eat together."""
    eaten = [ZERO] * works.goods
    for amount, recipe in zip(amounts, works.recipes):
        eaten = plus_rows(eaten, times_row(recipe.eats, amount))
    return eaten


def _used(works, held, number, amount):
    """The stock behind a use, or None if it does not bear it."""
    recipe = works.recipes[number]
    eaten = times_row(recipe.eats, amount)
    if not is_at_least(held, eaten):
        return None
    made = times_row(piece_of(works.goods, recipe.good), amount)
    return plus_rows(_less(held, eaten), made)


def _turned(works, held, amounts, many):
    """The stock behind so many times of a turn, or None if it does not bear one of them."""
    eaten = _eaten_by(works, amounts)
    net = net_of(works, amounts)
    # From time to time the stock changes by the same: if it bears the first and the last time, it bears all.
    last = plus_rows(held, times_row(net, (many - 1, 1)))
    if not is_at_least(held, eaten) or not is_at_least(last, eaten):
        return None
    return plus_rows(last, net)


def play_plan(works, stock, plan):
    """The stock behind the plan, or Stopped at the first entry that it does not bear."""
    held = check_stock(works, stock)
    _check_plan(works, plan)
    for index, (number, amount) in enumerate(plan.starts):
        held = _used(works, held, number, amount)
        if held is None:
            return Stopped("start", index)
    for index, (amounts, many) in enumerate(plan.turns):
        held = _turned(works, held, amounts, many)
        if held is None:
            return Stopped("turn", index)
    return held


def _greatest_part(held, eaten):
    """How many times at the most the stock holds what is eaten; ONE if nothing is eaten."""
    parts = [over(has, eats) for has, eats in zip(held, eaten) if eats != ZERO]
    return least_of(parts) if parts else ONE


def _first_uses(works, held):
    """Uses behind which some of each good of the closure is in hand, and the stock behind them."""
    uses = []
    for step in steps_from(works, pinch_of(held)):
        had = pinch_of(held)
        for good in step:
            number = [other for other in works.recipes_of(good) if eats_within(works.recipes[other], had)][0]
            # Half of what is in hand at the most: some of each good is left.
            amount = times(_greatest_part(held, works.recipes[number].eats), (1, 2))
            uses.append((number, amount))
            held = _used(works, held, number, amount)
    return tuple(uses), held


def _growing_turn(works, held, grown, numbers, wish):
    """A turn of the growing goods, so many times that the stock holds the wish."""
    amounts = made_amounts(works, grown, using=numbers)
    amounts = times_row(amounts, _greatest_part(held, _eaten_by(works, amounts)))
    net = net_of(works, amounts)
    many = 1
    for good in grown:
        top, bottom = over(minus(wish[good], held[good]), net[good])
        many = max(many, -(-top // bottom))
    return (amounts, many)


def growth_plan(works, stock, wish):
    """A Plan that leaves at least the wish in hand if the wish begins from the stock's pinch, else Held."""
    held = check_stock(works, stock)
    wished = check_wish(works.goods, wish)
    pinch = pinch_of(held)
    if not begins(works, pinch, wished):
        return Held(holding_weights(works, pinch))
    if is_at_least(held, wished):
        return Plan((), ())
    grown = grown_from(works, pinch)
    usable = usable_recipes(works, pinch)
    numbers = [number for number in usable if eats_within(works.recipes[number], grown)]
    uses, held = _first_uses(works, held)
    return Plan(uses, (_growing_turn(works, held, grown, numbers, wished),))


def plan_fault(works, stock, wish, plan):
    """Judges a Plan."""
    held = check_stock(works, stock)
    wished = check_wish(works.goods, wish)
    try:
        told = play_plan(works, held, plan)
    except BadPlan:
        return "plan"
    if isinstance(told, Stopped):
        return "stopped"
    if any([compare(has, asked) < 0 for has, asked in zip(told, wished)]):
        return "short"
    return None
