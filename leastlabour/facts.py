"""Labours that are not known, and facts that they keep."""

from leastlabour.errors import BadFact, BadLabours
from leastlabour.lots import all_lots, holds_one_of
from leastlabour.ratios import ONE, compare, is_row, is_sequence, is_whole, times
from leastlabour.works import Recipe, Works, is_above_zero

MOST_FACTS = 6


class Clash:
    """All lots of facts that no labours keep together, while some keep each lot of fewer of them."""

    def __init__(self, lots):
        self.lots = lots

    def __eq__(self, other):
        return isinstance(other, Clash) and self.lots == other.lots


def check_labours(works, labours):
    """The labours as a tuple."""
    if not is_row(labours, len(works)) or not all([is_above_zero(labour) for labour in labours]):
        raise BadLabours()
    return tuple(labours)


def with_labours(works, labours):
    """The works with these labours in the place of their own."""
    told = check_labours(works, labours)
    return Works(works.goods, [Recipe(recipe.good, labour, recipe.eats) for recipe, labour in zip(works, told)])


def check_facts(works, facts):
    """The facts as a tuple of tuples."""
    if not is_sequence(facts) or len(facts) > MOST_FACTS:
        raise BadFact(0, "many")
    last = len(works) - 1
    for index, fact in enumerate(facts):
        if not is_sequence(fact) or len(fact) != 3:
            raise BadFact(index, "fact")
        if not is_whole(fact[0], 0, last) or not is_whole(fact[2], 0, last):
            raise BadFact(index, "recipe")
        if not is_above_zero(fact[1]):
            raise BadFact(index, "ratio")
    return tuple([tuple(fact) for fact in facts])


def first_broken(facts, labours):
    """The index of the first fact that the labours do not keep, or None."""
    for index, (greater, size, lesser) in enumerate(facts):
        if compare(labours[greater], times(size, labours[lesser])) < 0:
            return index
    return None


def labours_keeping(many, facts):
    """Labours of so many recipes that keep these right facts, or None."""
    labours = [ONE] * many
    # A raise comes along other facts, each at most once, unless it comes around a ring and never ends.
    for _ in facts:
        for greater, size, lesser in facts:
            needed = times(size, labours[lesser])
            if compare(labours[greater], needed) < 0:
                labours[greater] = needed
    return tuple(labours) if first_broken(facts, labours) is None else None


def some_labours(works, facts):
    """Labours that keep all facts, or the Clash if there are none."""
    told = check_facts(works, facts)
    labours = labours_keeping(len(works), told)
    if labours is not None:
        return labours
    clashing = []
    for lot in all_lots(list(range(len(told)))):
        if not holds_one_of(lot, clashing) and labours_keeping(len(works), [told[index] for index in lot]) is None:
            clashing.append(lot)
    return Clash(tuple(clashing))
