import unittest

from leastlabour.errors import BadPrices, BadWish, NotMade
from leastlabour.making import can_be_made, making_recipes
from leastlabour.ownrows import MannerRow, makes_all, manner_amounts
from leastlabour.prices import (check_prices, gaps_of, greatest_prices, is_let, prices_fault, tight_recipes, undercuts,
                                worth_of)
from leastlabour.ratios import ONE, ZERO, plus
from leastlabour.works import Recipe, Works
from tests.drawing import HALF, NO_RATIOS, NO_SEQUENCES, Draw, back, fault, frac, fracs, is_plain, ratio_kinds, summed
from tests.plain import plain_greatest, plain_made, plain_row, plain_whole
from tests.test_making import EXAMPLE

TWO, THREE = (2, 1), (3, 1)
PAIR = Works(2, [Recipe(0, ONE, (ZERO, HALF)), Recipe(1, ONE, (HALF, ZERO))])
MORE = PAIR.with_recipe(Recipe(0, (3, 2), (ZERO, ZERO)))


def drawn_works(draw):
    return draw.works(most=9, zeros=draw.pick((6, 7)))


def drawn_prices(draw, works):
    """Right prices, near the greatest row or anywhere, with None where there are none."""
    prices = [None if price is None else price for price in greatest_prices(works)]
    for good, price in enumerate(prices):
        if price is not None and draw.chance(2, 3):
            prices[good] = plus(price, draw.ratio(-2, 1)) if draw.chance(1, 2) else draw.ratio(-3, 6)
    return prices


def plain_gaps(works, prices):
    """The gap of each making recipe as a fraction, None for the others."""
    gaps = []
    for number, recipe in enumerate(works):
        if number not in making_recipes(works):
            gaps.append(None)
            continue
        row = [0 if price is None else frac(price) for price in prices]
        gaps.append(frac(recipe.labour) + summed(fracs(recipe.eats), row) - row[recipe.good])
    return gaps


class TestRows(unittest.TestCase):
    def test_check_prices(self):
        self.assertEqual(check_prices(EXAMPLE, [TWO, (-1, 2), None]), (TWO, (-1, 2), None))
        self.assertIsInstance(check_prices(EXAMPLE, [TWO, THREE, None]), tuple)
        self.assertEqual(check_prices(Works(2, ()), [None, None]), (None, None))

    def test_faults(self):
        for call, more in ((check_prices, ()), (gaps_of, ()), (undercuts, ()), (is_let, ()), (worth_of, (None,))):
            for thing in NO_SEQUENCES + ((), (TWO, THREE), (TWO, THREE, None, None)):
                fault(self, BadPrices, {"what": "length"}, call, EXAMPLE, thing, *more)
            for prices in ((None, 5, ONE), (TWO, None, ONE), (TWO, THREE, ZERO), (TWO, THREE, 5), (None, None, None)):
                fault(self, BadPrices, {"what": "none"}, call, EXAMPLE, prices, *more)
            for thing in NO_RATIOS:
                if thing is not None:
                    fault(self, BadPrices, {"what": "price"}, call, EXAMPLE, (thing, None, ONE), *more)
                    fault(self, BadPrices, {"what": "price"}, call, EXAMPLE, [TWO, thing, ONE], *more)

    def test_gaps(self):
        self.assertEqual(gaps_of(EXAMPLE, [TWO, THREE, None]), (ZERO, None, ZERO))
        self.assertEqual(gaps_of(EXAMPLE, (ONE, THREE, None)), (HALF, None, (-1, 1)))
        self.assertEqual(undercuts(EXAMPLE, (ONE, THREE, None)), (2,))
        self.assertIs(is_let(EXAMPLE, (ONE, THREE, None)), False)
        self.assertIs(is_let(EXAMPLE, (ONE, TWO, None)), True)
        self.assertIs(is_let(EXAMPLE, ((-9, 1), (-9, 1), None)), True)
        self.assertEqual(gaps_of(Works(2, ()), (None, None)), ())
        self.assertIs(is_let(Works(2, ()), (None, None)), True)

    def test_drawn_rows(self):
        draw = Draw(81)
        for _ in range(150):
            works = drawn_works(draw)
            prices = drawn_prices(draw, works)
            gaps = plain_gaps(works, prices)
            told = gaps_of(works, list(prices))
            self.assertIsInstance(told, tuple)
            ratio_kinds(self, [gap for gap in told if gap is not None])
            self.assertEqual([None if gap is None else frac(gap) for gap in told], gaps)
            below = tuple(number for number, gap in enumerate(gaps) if gap is not None and gap < 0)
            self.assertEqual(undercuts(works, prices), below)
            self.assertIs(is_let(works, prices), below == ())

    def test_of_two_let_rows_the_row_of_the_greater_prices_is_let(self):
        draw = Draw(82)
        for _ in range(100):
            works = drawn_works(draw)
            let = [row for row in (drawn_prices(draw, works) for _ in range(8)) if is_let(works, row)]
            for one in let:
                for other in let:
                    greater = [a if a is None or frac(a) > frac(b) else b for a, b in zip(one, other)]
                    self.assertTrue(is_let(works, greater))


class TestGreatest(unittest.TestCase):
    def test_examples(self):
        self.assertEqual(greatest_prices(EXAMPLE), (TWO, THREE, None))
        self.assertEqual(greatest_prices(PAIR), (TWO, TWO))
        self.assertEqual(greatest_prices(MORE), ((3, 2), (7, 4)))
        self.assertEqual(tight_recipes(MORE), ((2,), (1,)))
        self.assertEqual(tight_recipes(EXAMPLE), ((0,), (2,), ()))
        self.assertEqual(worth_of(MORE, greatest_prices(MORE), (ZERO, ONE)), (7, 4))
        self.assertEqual(greatest_prices(Works(3, ())), (None,) * 3)
        self.assertEqual(tight_recipes(Works(3, ())), ((),) * 3)
        self.assertEqual(tight_recipes(PAIR.with_recipe(Recipe(1, TWO, (ZERO, ZERO)))), ((0,), (1, 2)))

    def test_least_over_all_manners(self):
        draw = Draw(83)
        for _ in range(150):
            works = drawn_works(draw)
            row = greatest_prices(works)
            self.assertIsInstance(row, tuple)
            self.assertEqual([None if price is None else frac(price) for price in row], plain_greatest(works))
            ratio_kinds(self, [price for price in row if price is not None])
            self.assertTrue(all(price is None or price[0] > 0 for price in row))
            self.assertTrue(is_let(works, row))
            self.assertIsNone(prices_fault(works, row))
            gaps = plain_gaps(works, row)
            tight = tight_recipes(works)
            is_plain(self, tight)
            for good in range(works.goods):
                wanted = tuple(number for number in works.recipes_of(good) if gaps[number] == 0)
                self.assertEqual(tight[good], wanted)
                self.assertEqual(row[good] is None, wanted == ())

    def test_let_rows_are_below_it(self):
        draw = Draw(84)
        seen = 0
        for _ in range(150):
            works = drawn_works(draw)
            row, other = greatest_prices(works), drawn_prices(draw, works)
            if is_let(works, other):
                seen += 1
                self.assertTrue(all(a is None or frac(b) <= frac(a) for a, b in zip(row, other)))
        self.assertTrue(seen > 30, seen)

    def test_tight_recipes_make_a_manner_with_this_row_that_serves_every_wish_by_the_least_labour(self):
        draw = Draw(85)
        for _ in range(60):
            works = drawn_works(draw)
            row = greatest_prices(works)
            manner = tuple(draw.pick(tight) if tight else None for tight in tight_recipes(works))
            self.assertEqual(makes_all(works, manner), MannerRow(row))
            wish = tuple(ZERO if price is None else draw.ratio(0, 3) for price in row)
            labours = [summed(fracs(manner_amounts(works, other, wish)), [frac(recipe.labour) for recipe in works])
                       for other in plain_whole(works) if plain_row(works, other) is not None]
            self.assertEqual(frac(worth_of(works, row, wish)), min(labours))

    def test_manners_are_never_below_it(self):
        draw = Draw(86)
        for _ in range(60):
            works = drawn_works(draw)
            row = greatest_prices(works)
            for manner in plain_whole(works):
                own = plain_row(works, manner)
                if own is not None:
                    self.assertTrue(all(own[good] >= frac(row[good]) for good in own))

    def test_amounts_of_many_figures(self):
        long = 10 ** 250
        works = Works(1, [Recipe(0, (1, long), [(long - 1, long)])])
        self.assertEqual(greatest_prices(works), (ONE,))


class TestJudge(unittest.TestCase):
    def test_words(self):
        self.assertIsNone(prices_fault(MORE, [(3, 2), (7, 4)]))
        for thing in NO_SEQUENCES + ((), (ONE,), (ONE,) * 3):
            self.assertEqual(prices_fault(MORE, thing), "length")
        self.assertEqual(prices_fault(MORE, (None, 5)), "none")
        self.assertEqual(prices_fault(MORE, (5, None)), "price")
        self.assertEqual(prices_fault(EXAMPLE, (TWO, THREE, ZERO)), "none")
        for thing in NO_RATIOS:
            if thing is not None:
                self.assertEqual(prices_fault(MORE, (thing, ONE)), "price")
        self.assertEqual(prices_fault(MORE, (TWO, TWO)), "undercut")
        self.assertEqual(prices_fault(MORE, (TWO, (-1, 1))), "undercut")
        self.assertEqual(prices_fault(MORE, (ZERO, ONE)), "below")
        self.assertEqual(prices_fault(MORE, (ZERO, (-1, 1))), "below")
        self.assertEqual(prices_fault(MORE, ((3, 2), ONE)), "loose")
        self.assertEqual(prices_fault(MORE, (ONE, (3, 2))), "loose")

    def test_a_tight_let_row_below_zero_is_not_the_greatest(self):
        works = Works(1, [Recipe(0, ONE, [TWO]), Recipe(0, (5, 1), [ZERO])])
        self.assertTrue(is_let(works, ((-1, 1),)))
        self.assertEqual(gaps_of(works, ((-1, 1),))[0], ZERO)
        self.assertEqual(prices_fault(works, ((-1, 1),)), "below")
        self.assertEqual(greatest_prices(works), ((5, 1),))

    def test_only_the_greatest_row_is_right(self):
        draw = Draw(87)
        for _ in range(200):
            works = drawn_works(draw)
            prices = drawn_prices(draw, works)
            self.assertEqual(prices_fault(works, prices) is None, tuple(prices) == greatest_prices(works))


class TestWorth(unittest.TestCase):
    def test_drawn(self):
        draw = Draw(88)
        for _ in range(100):
            works = drawn_works(draw)
            prices, wish = drawn_prices(draw, works), draw.row(works.goods, 0, 3, 6)
            lacking = [good for good, price in enumerate(prices) if price is None and wish[good] != ZERO]
            if lacking:
                fault(self, NotMade, {"good": lacking[0]}, worth_of, works, prices, wish)
            else:
                row = [0 if price is None else frac(price) for price in prices]
                self.assertEqual(frac(worth_of(works, list(prices), list(wish))), summed(row, fracs(wish)))

    def test_faults(self):
        for thing in NO_SEQUENCES + ((), (ONE,) * 2, (ONE,) * 4, (ONE, ONE, (-1, 2))):
            fault(self, BadWish, {}, worth_of, EXAMPLE, (TWO, THREE, None), thing)
        for thing in NO_RATIOS:
            fault(self, BadWish, {}, worth_of, EXAMPLE, (TWO, THREE, None), (ONE, ONE, thing))
        fault(self, NotMade, {"good": 2}, worth_of, EXAMPLE, (TWO, THREE, None), (ONE, ONE, ONE))
        self.assertEqual(worth_of(EXAMPLE, (TWO, (-3, 1), None), (ONE, ONE, ZERO)), (-1, 1))
        self.assertEqual(worth_of(Works(2, ()), (None, None), (ZERO, ZERO)), ZERO)

    def test_passed_lists_stay(self):
        prices, wish = [TWO, THREE, None], [ONE, ONE, ZERO]
        gaps_of(EXAMPLE, prices), undercuts(EXAMPLE, prices), worth_of(EXAMPLE, prices, wish)
        prices_fault(EXAMPLE, prices)
        self.assertEqual((prices, wish), ([TWO, THREE, None], [ONE, ONE, ZERO]))


class TestLedAlong(unittest.TestCase):
    def test_renamed(self):
        draw = Draw(89)
        for _ in range(80):
            works = drawn_works(draw)
            order = sorted(range(works.goods), key=lambda good: draw.whole(0, 999))
            changed = works.renamed(order)
            made, row, tight = can_be_made(works), greatest_prices(works), tight_recipes(works)
            self.assertEqual(can_be_made(changed), tuple(sorted(order[good] for good in made)))
            for good in range(works.goods):
                self.assertEqual(greatest_prices(changed)[order[good]], row[good])
                self.assertEqual(tight_recipes(changed)[order[good]], tight[good])

    def test_scaled(self):
        draw = Draw(90)
        for _ in range(80):
            works, size = drawn_works(draw), back(frac(draw.ratio(1, 9)) / 3)
            good = draw.whole(0, works.goods - 1)
            changed = works.scaled_good(good, size)
            wanted = [None if price is None else back(frac(price) * (frac(size) if other == good else 1))
                      for other, price in enumerate(greatest_prices(works))]
            self.assertEqual(list(greatest_prices(changed)), wanted)
            self.assertEqual(tight_recipes(changed), tight_recipes(works))
            self.assertEqual(can_be_made(changed), plain_made(works))

    def test_times_labour(self):
        draw = Draw(91)
        for _ in range(80):
            works, size = drawn_works(draw), back(frac(draw.ratio(1, 9)) / 4)
            changed = works.times_labour(size)
            wanted = [None if price is None else back(frac(price) * frac(size)) for price in greatest_prices(works)]
            self.assertEqual(list(greatest_prices(changed)), wanted)
            self.assertEqual(tight_recipes(changed), tight_recipes(works))


if __name__ == "__main__":
    unittest.main()
