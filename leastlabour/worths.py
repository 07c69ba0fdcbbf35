"""The price of a wish at a rate, parted into labour and worth or into the labours of dates."""

from leastlabour.errors import BadSteps, CannotRun
from leastlabour.ownrows import amounts_by
from leastlabour.prices import priced
from leastlabour.rates import check_rate, row_at_rate
from leastlabour.ratios import ZERO, is_whole, plus, plus_rows, times, times_row
from leastlabour.wishes import check_manner, check_wish, check_wished, goods_of, labour_of

MOST_STEPS = 12


class Parted:
    """A price that is the labour and the rate times the worth."""

    def __init__(self, price, labour, worth):
        self.price = price
        self.labour = labour
        self.worth = worth

    def __eq__(self, other):
        return (isinstance(other, Parted) and self.price == other.price and self.labour == other.labour
                and self.worth == other.worth)


class Dated:
    """The labours of steps, each of which makes what the step before it eats, and what the last one eats."""

    def __init__(self, labours, rest):
        self.labours = labours
        self.rest = rest

    def __eq__(self, other):
        return isinstance(other, Dated) and self.labours == other.labours and self.rest == other.rest


def _eaten_by(works, amounts):
    """What the amounts eat, good by good."""
    eaten = (ZERO,) * works.goods
    for amount, recipe in zip(amounts, works.recipes):
        if amount != ZERO:
            eaten = plus_rows(eaten, times_row(recipe.eats, amount))
    return eaten


def parted_price(works, manner, wish, rate):
    """The Parted price of the wish at the manner's own prices at the rate."""
    told = check_manner(works, manner)
    wished = check_wish(works.goods, wish)
    check_rate(rate)
    check_wished(wished, goods_of(told))
    prices = row_at_rate(works, told, rate)
    if prices is None:
        raise CannotRun()
    amounts = amounts_by(works, told, wished)
    return Parted(priced(wished, prices), labour_of(works, amounts), priced(_eaten_by(works, amounts), prices))


def _labour_by(works, manner, wish):
    """The labour of making the wish by the manner's recipes, and what they eat for it."""
    labour, eaten = ZERO, (ZERO,) * works.goods
    for entry, many in zip(manner, wish):
        if many != ZERO:
            recipe = works.recipes[entry]
            labour = plus(labour, times(recipe.labour, many))
            eaten = plus_rows(eaten, times_row(recipe.eats, many))
    return labour, eaten


def date_labour(works, manner, wish, steps):
    """The Dated labours of so many steps back from the wish."""
    told = check_manner(works, manner)
    rest = check_wish(works.goods, wish)
    if not is_whole(steps, 0, MOST_STEPS):
        raise BadSteps()
    check_wished(rest, goods_of(told))
    labours = []
    for _ in range(steps):
        labour, rest = _labour_by(works, told, rest)
        labours.append(labour)
    return Dated(tuple(labours), rest)
