"""Bounds of prices and regrets told by fractions and without the program."""

from fractions import Fraction

from tests.drawing import back, frac, fracs, summed
from tests.plainfacts import PlainPrices, plain_able, plain_making, plain_parts


def _facts_and(works, facts, places, told):
    """The rows of the facts and the told rows, as ratios."""
    rows = []
    for r, k, s in facts:
        row = [Fraction(0)] * places
        row[r] += 1
        row[s] -= frac(k)
        rows.append(row)
    return tuple(tuple(back(one) for one in row) for row in rows + told)


def _task(works, facts, places, told, cap, costs):
    rows = _facts_and(works, facts, places, told + [[-one for one in cap]])
    least = ((0, 1),) * (len(rows) - 1) + ((-1, 1),)
    return rows, least, tuple(back(one) for one in costs)


def plain_ratio_tasks(works, facts, good, other):
    """The tasks of the greatest ratio of two prices, as the document tells them."""
    many, places = len(works), len(works) + works.goods
    told = []
    for number in plain_making(works):
        recipe = works.recipes[number]
        row = [Fraction(int(place == number)) for place in range(many)] + fracs(recipe.eats)
        row[many + recipe.good] -= 1
        told.append(row)
    costs = [Fraction(0)] * places
    costs[many + good] = Fraction(-1)
    return tuple(_task(works, facts, places, told, plain_parts(works, manner)[other] + [0] * works.goods, costs)
                 for manner in plain_able(works))


def plain_needs(works, manner, wish):
    """The amounts that a manner takes for a wish, as fractions."""
    total = [Fraction(0)] * len(works)
    for many, part in zip(fracs(wish), plain_parts(works, manner)):
        if many:
            total = [one + many * other for one, other in zip(total, part)]
    return total


def plain_regret_tasks(works, facts, manner, wish):
    """The tasks of the regret of a manner, as the document tells them."""
    costs = [-one for one in plain_needs(works, manner, wish)]
    return tuple(_task(works, facts, len(works), [], plain_needs(works, other, wish), costs)
                 for other in plain_able(works))


class Quotients:
    """Quotients of prices, and of the labours of manners, at any labours."""

    def __init__(self, works):
        self.works = works
        self.prices = PlainPrices(works)

    def prices_of(self, good, other):
        """Gives at labours both prices as fractions."""
        def both(labours):
            row = self.prices.row(labours)
            return row[good], row[other]
        return both

    def labours_of(self, manner, wish):
        """Gives at labours the wish's labour by the manner, and its least labour."""
        own = plain_needs(self.works, manner, wish)

        def both(labours):
            row = self.prices.row(labours)
            least = sum((many * price for many, price in zip(fracs(wish), row) if many), Fraction(0))
            return summed(own, fracs(labours)), least
        return both


def kept_inside(labours, inner, part):
    """Labours a little way from these to inner ones, as ratios."""
    return tuple(back((1 - part) * frac(one) + part * frac(other)) for one, other in zip(labours, inner))


def labours_with(works, good, other, size, one, two):
    """Labours between one (price of good below size times other's) and two (not below) with just this proportion."""
    parts = [parts for parts in PlainPrices(works).parts.values()]

    def lines(place):
        return [(summed(part[place], fracs(one)), summed(part[place], fracs(two))) for part in parts]

    cuts = {Fraction(0), Fraction(1)}
    for told in (lines(good), lines(other)):
        for a, b in told:
            for c, d in told:
                if b - a != d - c:
                    cut = (c - a) / ((b - a) - (d - c))
                    if 0 < cut < 1:
                        cuts.add(cut)

    def gap(at):
        g, h = (min(a + (b - a) * at for a, b in lines(place)) for place in (good, other))
        return g - size * h

    cuts = sorted(cuts)
    for low, high in zip(cuts, cuts[1:]):
        if gap(low) <= 0 <= gap(high):
            at = low if gap(low) == gap(high) else low + (high - low) * (-gap(low)) / (gap(high) - gap(low))
            return tuple(back((1 - at) * frac(a) + at * frac(b)) for a, b in zip(one, two))
    return None
