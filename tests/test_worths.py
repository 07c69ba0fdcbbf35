import unittest

from leastlabour.errors import BadManner, BadRate, BadSteps, BadWish, CannotRun, NotMade
from leastlabour.rates import own_prices
from leastlabour.ratios import ONE, ZERO
from leastlabour.works import Recipe, Works
from leastlabour.worths import Dated, Parted, date_labour, parted_price
from tests.drawing import (HALF, NO_RATIOS, NO_SEQUENCES, NO_WHOLES, Draw, back, fault, frac, fracs, is_plain,
                           ratio_kinds, row_of_wholes, summed)
from tests.plain import plain_manners, plain_net, plain_row
from tests.plainfacts import plain_parts
from tests.plainrates import wasted
from tests.test_rates import WASTED

TWO, THREE = (2, 1), (3, 1)
DATES = Works(2, [Recipe(0, ONE, (ZERO, TWO)), Recipe(1, THREE, (ZERO, HALF)), Recipe(1, ONE, (ZERO, TWO))])


def drawn_manner(draw, able=True):
    """Works, a closed manner with some good, and a wish of its goods."""
    while True:
        works = draw.works(draw.whole(1, 4), 7, 6) if draw.chance(1, 4) else draw.eating_works()
        manner = draw.pick(list(plain_manners(works)))
        if all(entry is None for entry in manner) or able and plain_row(works, manner) is None:
            continue
        wish = tuple(ZERO if entry is None else draw.ratio(0, 2, 3) for entry in manner)
        return works, manner, wish


def eaten(works, amounts):
    """What amounts eat, as fractions."""
    return [summed(amounts, [frac(recipe.eats[good]) for recipe in works]) for good in range(works.goods)]


class TestParted(unittest.TestCase):
    def test_example(self):
        # At rate 1/2 good 0 costs 4, good 1 costs 7; a piece of good 1 takes 2 pieces of good 0 in all.
        told = parted_price(WASTED, (0, 1, None), (ZERO, ONE, ZERO), HALF)
        self.assertEqual(told, Parted((7, 1), THREE, (8, 1)))
        self.assertEqual(parted_price(WASTED, [0, 1, None], [ZERO] * 3, HALF), Parted(ZERO, ZERO, ZERO))
        self.assertEqual(parted_price(WASTED, (0, 1, None), (ZERO, ONE, ZERO), ZERO), Parted(THREE, THREE, (4, 1)))
        told = parted_price(WASTED, (None, 2, None), (ZERO, TWO, ZERO), THREE)
        self.assertEqual(told, Parted((18, 1), (18, 1), ZERO))
        self.assertEqual(parted_price(WASTED, (None,) * 3, (ZERO,) * 3, ONE), Parted(ZERO, ZERO, ZERO))

    def test_price_is_labour_and_rate_times_worth(self):
        draw = Draw(831)
        stopped, parted = 0, 0
        for _ in range(120):
            works, manner, wish = drawn_manner(draw)
            rate = draw.ratio(0, 1, 5)
            row = plain_row(wasted(works, frac(rate)), manner)
            if row is None:
                fault(self, CannotRun, {}, parted_price, works, manner, wish, rate)
                stopped += 1
                continue
            told = parted_price(works, list(manner), list(wish), rate)
            self.assertIs(told.__class__, Parted)
            ratio_kinds(self, (told.price, told.labour, told.worth))
            prices = [row.get(good, 0) for good in range(works.goods)]
            amounts = [0] * len(works)
            for many, part in zip(fracs(wish), plain_parts(works, manner)):
                if many:
                    amounts = [one + many * other for one, other in zip(amounts, part)]
            self.assertEqual(plain_net(works, [back(one) for one in amounts]), fracs(wish))
            self.assertEqual(frac(told.price), summed(fracs(wish), prices))
            self.assertEqual(frac(told.labour), summed(amounts, [frac(recipe.labour) for recipe in works]))
            self.assertEqual(frac(told.worth), summed(eaten(works, amounts), prices))
            self.assertEqual(frac(told.price), frac(told.labour) + frac(rate) * frac(told.worth))
            parted += told.worth != ZERO and rate != ZERO
        self.assertTrue(min(stopped, parted) > 10, (stopped, parted))

    def test_faults_in_order(self):
        for thing in NO_SEQUENCES + ((), (0, 1), (None, 1, None), (1, 0, None), (0, 4, None)):
            fault(self, BadManner, {}, parted_price, WASTED, thing, None, None)
        for thing in NO_SEQUENCES + ((), (ONE, ONE), (ONE, ONE, (-1, 2)), (ONE, ONE, 1)):
            fault(self, BadWish, {}, parted_price, WASTED, (None, None, 3), thing, None)
        for thing in NO_RATIOS + ((-1, 2),):
            fault(self, BadRate, {}, parted_price, WASTED, (None, None, 3), (ONE,) * 3, thing)
        fault(self, NotMade, {"good": 0}, parted_price, WASTED, (None, None, 3), (HALF, ONE, ONE), ZERO)
        fault(self, NotMade, {"good": 1}, parted_price, WASTED, (None, None, 3), (ZERO, ONE, ONE), ZERO)
        fault(self, NotMade, {"good": 2}, parted_price, WASTED, (0, 1, None), (ONE, ONE, ONE), (5, 1))
        fault(self, CannotRun, {}, parted_price, WASTED, (None, None, 3), (ZERO, ZERO, ONE), ZERO)
        fault(self, CannotRun, {}, parted_price, WASTED, (0, 1, None), (ZERO,) * 3, ONE)

    def test_passed_lists_stay(self):
        manner, wish = [0, 1, None], [ONE, ONE, ZERO]
        parted_price(WASTED, manner, wish, HALF), date_labour(WASTED, manner, wish, 3)
        self.assertEqual((manner, wish), ([0, 1, None], [ONE, ONE, ZERO]))


class TestDated(unittest.TestCase):
    def test_example(self):
        wish = (ONE, ZERO)
        self.assertEqual(date_labour(DATES, (0, 1), wish, 0), Dated((), (ONE, ZERO)))
        self.assertEqual(date_labour(DATES, [0, 1], list(wish), 1), Dated((ONE,), (ZERO, TWO)))
        self.assertEqual(date_labour(DATES, (0, 1), wish, 3), Dated(row_of_wholes(1, 6, 3), (ZERO, HALF)))
        # A manner that cannot make.
        self.assertEqual(date_labour(DATES, (0, 2), wish, 4), Dated(row_of_wholes(1, 2, 4, 8), (ZERO, (16, 1))))
        told = date_labour(DATES, (0, 2), wish, 12)
        self.assertEqual((len(told.labours), told.labours[-1], told.rest), (12, (2048, 1), (ZERO, (4096, 1))))
        self.assertEqual(date_labour(DATES, (None, None), (ZERO, ZERO), 2), Dated((ZERO, ZERO), (ZERO, ZERO)))
        # Nothing is eaten any more.
        bare = Works(1, [Recipe(0, TWO, (ZERO,))])
        self.assertEqual(date_labour(bare, (0,), (HALF,), 3), Dated((ONE, ZERO, ZERO), (ZERO,)))

    def test_price_is_the_sum_over_the_dates(self):
        draw = Draw(832)
        summed_up = 0
        for _ in range(100):
            works, manner, wish = drawn_manner(draw, False)
            steps, rate = draw.whole(0, 12), draw.ratio(0, 1, 5)
            told = date_labour(works, list(manner), list(wish), steps)
            self.assertIs(told.__class__, Dated)
            is_plain(self, (told.labours, told.rest))
            ratio_kinds(self, told.labours + told.rest)
            self.assertEqual(len(told.labours), steps)
            rest = fracs(wish)
            for labour in told.labours:
                amounts = [0] * len(works)
                for good, entry in enumerate(manner):
                    if entry is not None:
                        amounts[entry] = rest[good]
                self.assertEqual(frac(labour), summed(amounts, [frac(recipe.labour) for recipe in works]))
                rest = eaten(works, amounts)
            self.assertEqual(fracs(told.rest), rest)
            row = own_prices(works, manner, rate)
            if row is not None:
                prices = [0 if price is None else frac(price) for price in row]
                size = 1 + frac(rate)
                total = sum(size ** k * frac(labour) for k, labour in enumerate(told.labours))
                self.assertEqual(summed(fracs(wish), prices), total + size ** steps * summed(rest, prices))
                summed_up += 1
        self.assertTrue(summed_up > 30, summed_up)

    def test_faults_in_order(self):
        for thing in NO_SEQUENCES + ((), (0,), (0, None), (1, 0), (0, 3)):
            fault(self, BadManner, {}, date_labour, DATES, thing, None, None)
        for thing in NO_SEQUENCES + ((), (ONE,), (ONE, (-1, 2)), (ONE, 1)):
            fault(self, BadWish, {}, date_labour, DATES, (None, 1), thing, None)
        for thing in NO_WHOLES + (-1, 13, 10 ** 6):
            fault(self, BadSteps, {}, date_labour, DATES, (None, 1), (ONE, ONE), thing)
        fault(self, NotMade, {"good": 0}, date_labour, DATES, (None, 1), (ONE, ONE), 0)
        fault(self, NotMade, {"good": 1}, date_labour, DATES, (None, None), (ZERO, ONE), 12)


if __name__ == "__main__":
    unittest.main()
