"""Works at rates, polynomials and their roots told by fractions and without the program."""

from fractions import Fraction

from leastlabour.works import Recipe, Works
from tests.drawing import back, frac, fracs, summed
from tests.plain import plain_made, plain_row, plain_whole
from tests.plainfacts import plain_making
from tests.sums import determinant


def wasted(works, rate):
    """The works at a rate."""
    size = 1 + Fraction(rate)
    return Works(works.goods, [Recipe(recipe.good, recipe.labour, [back(frac(one) * size) for one in recipe.eats])
                               for recipe in works])


def plain_runs(works, rate):
    return plain_made(wasted(works, rate)) == plain_made(works)


def best_at(works, rate):
    """The manners of the works that can make at the rate and whose row is the least over all of them."""
    changed = wasted(works, rate)
    rows = [(manner, plain_row(changed, manner)) for manner in plain_whole(works)]
    rows = [(manner, row) for manner, row in rows if row is not None]
    return [manner for manner, row in rows if all(row[good] <= other[good] for _, other in rows for good in row)]


def is_best(works, manner, rate):
    return manner in best_at(works, rate)


def value(polynomial, place):
    total = Fraction(0)
    for entry in reversed(polynomial):
        total = total * place + entry
    return total


def cut(polynomial):
    """Without the zeros at the end."""
    polynomial = list(polynomial)
    while polynomial and polynomial[-1] == 0:
        polynomial.pop()
    return polynomial


def product(one, other):
    total = [Fraction(0)] * (len(one) + len(other))
    for k, left in enumerate(one):
        for m, right in enumerate(other):
            total[k + m] += left * right
    return cut(total)


def fitted(points):
    """The polynomial of least length through these couples (place, value)."""
    total = []
    for at, (place, wanted) in enumerate(points):
        part = [Fraction(wanted)]
        for k, (other, _) in enumerate(points):
            if k != at:
                part = product(part, [Fraction(-other, 1) / (place - other), Fraction(1) / (place - other)])
        total = [(total[k] if k < len(total) else 0) + (part[k] if k < len(part) else 0)
                 for k in range(max(len(total), len(part)))]
    return cut(total)


def rows_at(works, manner, rate, good=None):
    """The rows of the making polynomial at a rate, with the labours in the place of a good."""
    lot = [g for g in range(works.goods) if manner[g] is not None]
    rows = []
    for g in lot:
        recipe = works.recipes[manner[g]]
        row = [int(g == h) - (1 + rate) * frac(recipe.eats[h]) for h in lot]
        if good is not None:
            row[lot.index(good)] = frac(recipe.labour)
        rows.append(row)
    return rows


def _through(works, told):
    """The polynomial through the numbers that `told` gives at rates."""
    return fitted([(Fraction(rate), told(Fraction(rate))) for rate in range(works.goods + 3)])


def plain_making_polynomial(works, manner):
    return _through(works, lambda rate: determinant(rows_at(works, manner, rate)))


def plain_price_polynomial(works, manner, good):
    return _through(works, lambda rate: determinant(rows_at(works, manner, rate, good)))


def plain_switch_polynomial(works, manner, number):
    recipe = works.recipes[number]

    def told(rate):
        prices = [Fraction(0) if entry is None else determinant(rows_at(works, manner, rate, good))
                  for good, entry in enumerate(manner)]
        made = determinant(rows_at(works, manner, rate))
        return frac(recipe.labour) * made + (1 + rate) * summed(fracs(recipe.eats), prices) - prices[recipe.good]
    return _through(works, told)


def divided(one, other):
    """The quotient and the rest."""
    rest, quotient = cut(one), [Fraction(0)] * max(0, len(one) - len(other) + 1)
    while len(rest) >= len(other):
        at = len(rest) - len(other)
        quotient[at] = Fraction(rest[-1]) / other[-1]
        rest = cut([entry - (quotient[at] * other[k - at] if k >= at else 0) for k, entry in enumerate(rest)][:-1])
    return cut(quotient), rest


def _chain(polynomial):
    """The chain of rests from a polynomial and its slope on."""
    chain = [polynomial, cut([k * entry for k, entry in enumerate(polynomial)][1:])]
    while chain[-1]:
        chain.append([-entry for entry in divided(chain[-2], chain[-1])[1]])
    return chain[:-1]


def _changes(chain, place):
    signs = [value(one, place) > 0 for one in chain if value(one, place) != 0]
    return sum(one != other for one, other in zip(signs, signs[1:]))


def roots_between(polynomial, low, high):
    """How many unlike roots lie between two places that are no roots."""
    chain = _chain(polynomial)
    return _changes(chain, low) - _changes(chain, high)


def freed(polynomial, low, high):
    """The polynomial without its roots at both ends, with the sign that it has between them."""
    polynomial = cut(polynomial)
    for end, sign in ((low, 1), (high, -1)):
        while value(polynomial, end) == 0:
            polynomial = divided(polynomial, [-sign * end, Fraction(sign)])[0]
    return polynomial


def never_below(polynomial, low, high):
    """Whether a polynomial is 0 or more from low to high, by cutting the whole until each piece has one root."""
    if not cut(polynomial):
        return True
    polynomial = freed(polynomial, low, high)
    waiting = [(Fraction(low), Fraction(high))]
    while waiting:
        low, high = waiting.pop()
        if min(value(polynomial, low), value(polynomial, high)) < 0:
            return False
        if roots_between(polynomial, low, high) > 1:
            middle, part = (low + high) / 2, 2
            while value(polynomial, middle) == 0:
                part += 1
                middle = low + (high - low) / part
            waiting += [(low, middle), (middle, high)]
    return True


class PlainRates:
    """Which manners of some works are best at all rates from one to another."""

    def __init__(self, works):
        self.works = works
        self.manners = plain_whole(works)
        self.switches = {manner: [plain_switch_polynomial(works, manner, number) for number in plain_making(works)]
                         for manner in self.manners}

    def is_best_within(self, manner, low, high):
        if manner not in self.switches or plain_row(wasted(self.works, high), manner) is None:
            return False
        return all(never_below(switch, low, high) for switch in self.switches[manner])

    def stretches(self, low, high, width):
        """The joined stretches (low, high, word, manner) as the document tells them."""
        told = []
        for piece in self.pieces(Fraction(low), Fraction(high), width):
            if told and piece[2] != "cut" and told[-1][2:] == piece[2:]:
                piece = (told.pop()[0],) + piece[1:]
            told.append(piece)
        return told

    def pieces(self, low, high, width):
        for manner in self.manners:
            if self.is_best_within(manner, low, high):
                return [(low, high, "best", manner)]
        if not plain_runs(self.works, low):
            return [(low, high, "stopped", None)]
        if high - low <= width:
            return [(low, high, "cut", None)]
        middle = (low + high) / 2
        return self.pieces(low, middle, width) + self.pieces(middle, high, width)
