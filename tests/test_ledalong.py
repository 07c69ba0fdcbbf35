"""What follows from works is led along when goods are renamed, pieces are told in other sizes, or all labours grow."""

import unittest

from leastlabour.bounds import price_range, safest_manner
from leastlabour.buying import bought_until, made_or_bought
from leastlabour.feels import feels, stays_until, used_until
from leastlabour.likeworks import bare_works, idle_recipes
from leastlabour.making import can_be_made
from leastlabour.rates import own_prices, runs_up_to
from leastlabour.ratios import ONE, ZERO, over, times, times_row
from leastlabour.returns import rate_list
from leastlabour.room import labour_limit, room_for
from leastlabour.switches import making_polynomial
from tests.drawing import HALF, Draw
from tests.plainfacts import plain_able

SIZES = (HALF, (3, 1), (2, 5))


def moved(row, order):
    """The row with the entry of each good at its new place."""
    told = [None] * len(row)
    for good, entry in enumerate(row):
        told[order[good]] = entry
    return tuple(told)


def drawn_order(draw, goods):
    left, order = list(range(goods)), []
    while left:
        order.append(left.pop(draw.whole(0, len(left) - 1)))
    return order


def at_good(row, good, call, size):
    """The row with another entry at the good, unless it is None there."""
    return tuple(entry if entry is None or place != good else call(entry, size) for place, entry in enumerate(row))


def told_of(told, size):
    """A couple (word, labour) with the labour times the size."""
    return (told[0],) + tuple(None if one is None else times(one, size) for one in told[1:])


class TestLedAlong(unittest.TestCase):
    def works(self, draw):
        return draw.eating_works(draw.whole(1, 4)) if draw.chance(2, 3) else draw.works(draw.whole(1, 4), 7, 7)

    def test_renamed(self):
        draw = Draw(981)
        for _ in range(50):
            works = self.works(draw)
            order = drawn_order(draw, works.goods)
            named = works.renamed(order)
            market = [draw.ratio(1, 4) if draw.chance(1, 2) else None for _ in range(works.goods)]
            self.assertEqual(made_or_bought(named, moved(market, order)), moved(made_or_bought(works, market), order))
            self.assertEqual(idle_recipes(named), idle_recipes(works))
            self.assertEqual(bare_works(named), bare_works(works).renamed(order))
            self.assertEqual(runs_up_to(named, 10, 30), runs_up_to(works, 10, 30))
            good, eats = draw.whole(0, works.goods - 1), draw.row(works.goods, 0, 1, 7)
            self.assertEqual(bought_until(named, moved(market, order), order[good]), bought_until(works, market, good))
            self.assertEqual(room_for(named, order[good], moved(eats, order)), room_for(works, good, eats))
            for number in range(len(works)):
                self.assertEqual(used_until(named, number), used_until(works, number))
                self.assertEqual(stays_until(named, number), stays_until(works, number))
                self.assertEqual(feels(named, number, ONE), moved(feels(works, number, ONE), order))
            for one, other in zip(rate_list(named, ZERO, ONE, HALF), rate_list(works, ZERO, ONE, HALF)):
                self.assertEqual((one.low, one.high, one.word), (other.low, other.high, other.word))
                self.assertEqual(one.manner, other.manner and moved(other.manner, order))

    def test_greater_labours(self):
        draw = Draw(982)
        for _ in range(40):
            works, size = self.works(draw), draw.pick(SIZES)
            grown = works.times_labour(size)
            self.assertEqual(idle_recipes(grown), idle_recipes(works))
            self.assertEqual(rate_list(grown, ZERO, ONE, HALF), rate_list(works, ZERO, ONE, HALF))
            good, eats = draw.whole(0, works.goods - 1), draw.row(works.goods, 0, 1, 7)
            self.assertEqual(room_for(grown, good, eats), told_of(room_for(works, good, eats), size))
            for number in range(len(works)):
                self.assertEqual(used_until(grown, number), told_of(used_until(works, number), size))
                stays = stays_until(works, number)
                self.assertEqual(stays_until(grown, number), stays and times(stays, size))
                if good in can_be_made(works):
                    told = labour_limit(works, number, good, (3, 1))
                    self.assertEqual(labour_limit(grown, number, good, times((3, 1), size)), told_of(told, size))

    def test_other_sizes_of_pieces(self):
        draw = Draw(983)
        for _ in range(40):
            works, size = self.works(draw), draw.pick(SIZES)
            good = draw.whole(0, works.goods - 1)
            scaled = works.scaled_good(good, size)
            self.assertEqual(idle_recipes(scaled), idle_recipes(works))
            self.assertEqual(rate_list(scaled, ZERO, ONE, HALF), rate_list(works, ZERO, ONE, HALF))
            for manner in plain_able(works)[:2]:
                self.assertEqual(making_polynomial(scaled, manner), making_polynomial(works, manner))
                row = own_prices(works, manner, HALF)
                self.assertEqual(own_prices(scaled, manner, HALF), row and at_good(row, good, times, size))
            made = can_be_made(works)
            if made and len(plain_able(works)) <= 16:
                facts = [(draw.whole(0, len(works) - 1), HALF, draw.whole(0, len(works) - 1))]
                wish = tuple(ONE if place in made else ZERO for place in range(works.goods))
                # Labours of scaled works that are as many times greater stand in the same proportion to one another.
                sizes = [size if recipe.good == good else ONE for recipe in works]
                told = [(r, times(k, over(sizes[r], sizes[s])), s) for r, k, s in facts]
                self.assertEqual(safest_manner(scaled, told, at_good(wish, good, over, size)),
                                 safest_manner(works, facts, wish))
                low, high = price_range(works, facts, made[0], made[-1])
                part = over(size if made[0] == good else ONE, size if made[-1] == good else ONE)
                self.assertEqual(price_range(scaled, told, made[0], made[-1]),
                                 (times(low, part), high and times_row((high,), part)[0]))


if __name__ == "__main__":
    unittest.main()
