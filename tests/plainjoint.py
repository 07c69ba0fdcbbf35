"""Joint works judged by a plain going through of all corners of the let prices, without the program."""

from fractions import Fraction
from itertools import combinations

from tests.drawing import fracs, lots_of, summed
from tests.sums import can_be_met, solution


def plain_left(recipe):
    """What a joint recipe makes less what it eats, as fractions."""
    return [made - eaten for made, eaten in zip(fracs(recipe.makes), fracs(recipe.eats))]


def plain_joint_net(works, amounts):
    """What amounts leave, as fractions."""
    net = [Fraction(0)] * works.goods
    for amount, recipe in zip(fracs(amounts), works):
        net = [left + amount * one for left, one in zip(net, plain_left(recipe))]
    return net


def is_let_row(works, prices):
    """Whether fractions from 0 on are let."""
    return min(prices) >= 0 and all(summed(plain_left(recipe), prices) <= Fraction(*recipe.labour) for recipe in works)


def plain_corners(works):
    """All corners of the let prices, as tuples of fractions, ascending."""
    sides = [(plain_left(recipe), Fraction(*recipe.labour)) for recipe in works]
    sides += [([Fraction(int(good == other)) for other in range(works.goods)], Fraction(0))
              for good in range(works.goods)]
    found = set()
    for chosen in combinations(sides, works.goods):
        prices = solution([row for row, _ in chosen], [total for _, total in chosen])
        if prices is not None and is_let_row(works, prices):
            found.add(tuple(prices))
    return sorted(found)


def plain_can_serve(works, wish):
    """Whether some amounts serve the wish, by leaving out places."""
    if not len(works):
        return not any(fracs(wish))
    left = [plain_left(recipe) for recipe in works]
    return can_be_met([[row[good] for row in left] for good in range(works.goods)], fracs(wish))


def worth_at(corners, wish):
    """The greatest worth of a wish of fractions at the corners: its least labour, if it can be served."""
    return max(summed(prices, wish) for prices in corners)


def plain_costs(works):
    """The least labour of a wish of fractions, for works of which all goods can be made."""
    corners, known = plain_corners(works), {}

    def cost(wish):
        if tuple(wish) not in known:
            known[tuple(wish)] = worth_at(corners, wish)
        return known[tuple(wish)]

    return cost


def part_in(wish, lot):
    """The part of a wish of fractions that lies in the lot."""
    return [many if good in lot else Fraction(0) for good, many in enumerate(wish)]


def partings_of(things):
    """All partings of things into groups, as lists of tuples."""
    if not things:
        return [[]]
    found = []
    for lot in lots_of(len(things) - 1):
        group = (things[0],) + tuple(things[1 + place] for place in lot)
        rest = [thing for thing in things if thing not in group]
        found += [[group] + more for more in partings_of(rest)]
    return found
