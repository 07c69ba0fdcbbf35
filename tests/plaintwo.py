"""Works of two labours judged by a plain going through of all manners, by fractions and without the program."""

from fractions import Fraction

from tests.drawing import frac
from tests.plain import plain_whole
from tests.sums import solution


def plain_needs(two, manner):
    """For each good of the manner the fractions (first, second) that a piece takes, or None if it cannot make."""
    lot = [good for good in range(two.goods) if manner[good] is not None]
    recipes = [two.recipes[manner[good]] for good in lot]
    rows = [[int(good == other) - frac(recipe.eats[other]) for other in lot] for good, recipe in zip(lot, recipes)]
    # Prices at labours of 1 tell whether the manner can make.
    ones = solution(rows, [Fraction(1)] * len(lot))
    if ones is None or any(price < 0 for price in ones):
        return None
    firsts = solution(rows, [frac(recipe.first) for recipe in recipes])
    seconds = solution(rows, [frac(recipe.second) for recipe in recipes])
    return dict(zip(lot, zip(firsts, seconds)))


class Plain:
    """All manners of the two works that can make, with their needs."""

    def __init__(self, two):
        self.two = two
        one_labour = [recipe for recipe in two.recipes]
        self.needs = {}
        for manner in plain_whole(_OneLabour(two.goods, one_labour)):
            needs = plain_needs(two, manner)
            if needs is not None:
                self.needs[manner] = needs
        self.made = tuple(sorted(next(iter(self.needs.values()))))

    def row(self, share):
        """The least price of each good at a share, over all manners."""
        return {good: min(mix(needs[good], share) for needs in self.needs.values()) for good in self.made}

    def points(self, wish):
        """What the wish, of goods that can be made, takes of both labours by each manner."""
        return [(sum(needs[good][0] * wish[good] for good in needs), sum(needs[good][1] * wish[good] for good in needs))
                for needs in self.needs.values()]

    def cuts(self):
        """All shares strictly between 0 and 1 at which the least price of some good is broken."""
        found = set()
        for good in self.made:
            lines = {needs[good] for needs in self.needs.values()}
            for one in lines:
                for other in lines:
                    share = crossing(one, other)
                    if share is not None and self.is_broken(lines, share):
                        found.add(share)
        return sorted(found)

    def is_broken(self, lines, share):
        """Whether lines of unlike slopes are the lowest ones at the share."""
        least = min(mix(line, share) for line in lines)
        slopes = {second - first for first, second in lines if mix((first, second), share) == least}
        return len(slopes) > 1


class _OneLabour:
    """Two works seen as works, with a labour of 1 for each recipe."""

    def __init__(self, goods, recipes):
        self.goods = goods
        self.recipes = [_Piece(recipe) for recipe in recipes]


class _Piece:
    def __init__(self, recipe):
        self.good, self.labour, self.eats = recipe.good, (1, 1), recipe.eats


def mix(needs, share):
    return (1 - share) * needs[0] + share * needs[1]


def crossing(one, other):
    """The share strictly between 0 and 1 at which two lines of unlike slopes meet, or None."""
    slope = (one[1] - one[0]) - (other[1] - other[0])
    if slope == 0:
        return None
    share = (other[0] - one[0]) / slope
    return share if 0 < share < 1 else None


def plain_frontier(points):
    """The corners of the falling convex line below all points, the least first one first."""
    corners = [min(points)]
    while True:
        first, second = corners[-1]
        lower = [(one, other) for one, other in points if other < second]
        if not lower:
            return corners
        slopes = [((other - second) / (one - first), one, other) for one, other in lower]
        steepest = min(slope for slope, _, _ in slopes)
        # Of several on one line the last one is the corner.
        corners.append(max((one, other) for slope, one, other in slopes if slope == steepest))


def plain_least_second(points, first):
    """The least second labour with at most this first one, over all mixtures of two points, or None."""
    best = [second for one, second in points if one <= first]
    for one, second in points:
        for other, third in points:
            if one <= first < other:
                part = (first - one) / (other - one)
                best.append((1 - part) * second + part * third)
    return min(best, default=None)
