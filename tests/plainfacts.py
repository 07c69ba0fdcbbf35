"""Facts, parts, tasks and claims told by fractions and without the program."""

from fractions import Fraction
from itertools import permutations

from tests.drawing import back, frac, fracs, lots_of, summed
from tests.plain import eaten_goods, plain_made, plain_row, plain_whole
from tests.sums import solution


def is_ring(facts):
    """Whether the facts stand in a ring whose ratios multiply to more than 1."""
    size = Fraction(1)
    for _, ratio, _ in facts:
        size *= frac(ratio)
    if size <= 1 or len({fact[0] for fact in facts}) < len(facts):
        return False
    return any(all(one[2] == other[0] for one, other in zip(order, order[1:] + order[:1]))
               for order in permutations(facts))


def plain_clash(facts):
    """All lots of facts in a ring whose ratios multiply to more than 1, fewer facts first, then ascending."""
    return tuple(lot for lot in lots_of(len(facts)) if lot and is_ring([tuple(facts[index]) for index in lot]))


def keeps(facts, labours):
    """Whether labours keep all facts."""
    return all(frac(labours[r]) >= frac(k) * frac(labours[s]) for r, k, s in facts)


def plain_able(works):
    """The able manners, ascending."""
    return [manner for manner in plain_whole(works) if plain_row(works, manner) is not None]


def plain_parts(works, manner):
    """For each good the amounts of one piece by an able manner, as fractions, or None."""
    lot = [good for good in range(works.goods) if manner[good] is not None]
    rows = [[int(good == other) - frac(works.recipes[manner[other]].eats[good]) for other in lot] for good in lot]
    parts = []
    for good in range(works.goods):
        if manner[good] is None:
            parts.append(None)
            continue
        amounts = [Fraction(0)] * len(works)
        for other, amount in zip(lot, solution(rows, [Fraction(int(good == other)) for other in lot])):
            amounts[manner[other]] = amount
        parts.append(amounts)
    return parts


def plain_making(works):
    """The numbers of the recipes of goods that can be made which eat only such goods."""
    made = set(plain_made(works))
    return [number for number, recipe in enumerate(works)
            if recipe.good in made and set(eaten_goods(recipe)) <= made]


def plain_gap_row(works, parts, number):
    """The gap row of a recipe beside the manner of these parts, as fractions."""
    recipe = works.recipes[number]
    row = [Fraction(int(place == number)) for place in range(len(works))]
    for place in range(len(works)):
        for good in eaten_goods(recipe):
            row[place] += frac(recipe.eats[good]) * parts[good][place]
        row[place] -= parts[recipe.good][place]
    return row


def plain_task(works, facts, told, places):
    """The task of facts and told rows (fractions, total) as ratios."""
    rows, least = [[Fraction(0)] * places], [Fraction(0)]
    for r, k, s in facts:
        row = [Fraction(0)] * places
        row[r] += 1
        row[s] -= frac(k)
        rows.append(row)
        least.append(Fraction(0))
    for row, total in told:
        rows.append(row)
        least.append(total)
    least = [total - sum(row[:len(works)]) for row, total in zip(rows, least)]
    return tuple(tuple(back(one) for one in row) for row in rows), tuple(back(total) for total in least)


def plain_best_task(works, facts, manner, special=None, sign=1, total=0):
    """The task of an able manner; the row of a special recipe is taken times the sign and has another total."""
    parts = plain_parts(works, manner)
    told = []
    for number in plain_making(works):
        if number not in manner:
            row = plain_gap_row(works, parts, number)
            if number == special:
                told.append(([sign * one for one in row], total))
            else:
                told.append((row, 0))
    return plain_task(works, facts, told, len(works))


def plain_claim_tasks(works, facts, claim, holds):
    """The tasks of a claim, as the document tells them."""
    if claim[0] in ("above", "least"):
        return tuple(plain_price_task(works, facts, claim, holds, manner) for manner in plain_able(works))
    word, recipe = claim
    bare = plain_task(works, facts, [], len(works))
    if recipe not in plain_making(works):
        return () if holds else (bare,)
    having = [manner for manner in plain_able(works) if recipe in manner]
    lacking = [manner for manner in plain_able(works) if recipe not in manner]
    if word == "used":
        if holds:
            return tuple(plain_best_task(works, facts, manner) for manner in having)
        return tuple(plain_best_task(works, facts, manner, recipe, 1, 1) for manner in lacking)
    if not holds:
        return tuple(plain_best_task(works, facts, manner) for manner in lacking)
    if not lacking:
        return (bare,)
    return tuple(plain_best_task(works, facts, manner, recipe, -1, 1) for manner in lacking)


def plain_price_task(works, facts, claim, holds, manner):
    word, g, k, h = claim
    many, parts = len(works), plain_parts(works, manner)
    told = []
    for number in plain_making(works):
        recipe = works.recipes[number]
        row = [Fraction(int(place == number)) for place in range(many)] + fracs(recipe.eats)
        row[many + recipe.good] -= 1
        told.append((row, 0))
    row = [Fraction(0)] * (many + works.goods)
    raised, size, lowered, part = (g, 1, h, frac(k)) if holds else (h, frac(k), g, 1)
    row[many + raised] += size
    for place in range(many):
        row[place] -= part * parts[lowered][place]
    told.append((row, 1 if (word, holds) in (("above", True), ("least", False)) else 0))
    return plain_task(works, facts, told, many + works.goods)


class PlainPrices:
    """The greatest prices of works at any labours, by the parts of all able manners."""

    def __init__(self, works):
        self.works = works
        self.parts = {manner: plain_parts(works, manner) for manner in plain_able(works)}
        self.making = plain_making(works)

    def row(self, labours):
        """The greatest row as fractions, None where there is none."""
        labours = fracs(labours)
        prices = []
        for good in range(self.works.goods):
            costs = [summed(parts[good], labours) for parts in self.parts.values() if parts[good] is not None]
            prices.append(min(costs, default=None))
        return prices

    def is_best(self, manner, labours):
        """Whether the manner's own prices are the greatest ones."""
        own = [None if part is None else summed(part, fracs(labours)) for part in self.parts[manner]]
        return own == self.row(labours)

    def best(self, labours):
        return [manner for manner in self.parts if self.is_best(manner, labours)]

    def is_true(self, labours, claim):
        """Whether a claim is true at labours."""
        if claim[0] in ("above", "least"):
            row = self.row(labours)
            one, other = row[claim[1]], frac(claim[2]) * row[claim[3]]
            return one > other if claim[0] == "above" else one >= other
        having = [claim[1] in manner for manner in self.best(labours)]
        return any(having) if claim[0] == "used" else all(having)
