import unittest

from leastlabour.buying import bought_until, buys_nothing, check_market, made_or_bought, with_market
from leastlabour.errors import BadMarket, BadWorks, NoGood
from leastlabour.manners import best_manner
from leastlabour.prices import greatest_prices, tight_recipes
from leastlabour.ratios import ONE, ZERO
from leastlabour.works import Recipe, Works
from leastlabour.workstext import works_of
from tests.drawing import HALF, NO_RATIOS, NO_SEQUENCES, NO_WHOLES, Draw, back, fault, frac, is_plain
from tests.plain import plain_greatest

TWO, THREE = (2, 1), (3, 1)
MADE = works_of("goods 2\n0: 1 + 1/2 of 1\n1: 1 + 1/2 of 0\n0: 3/2")
# Good 1 cannot be made; good 2 is made of it.
LACKING = works_of("goods 3\n0: 2\n2: 1 + 1 of 1\n2: 9")


def bare(many, goods=5):
    """Works of so many recipes of good 0 that eat nothing."""
    return Works(goods, [Recipe(0, (7, 1), (ZERO,) * goods)] * many)


def drawn_market(draw, goods):
    return [draw.ratio(1, 4, 3) if draw.chance(1, 2) else None for _ in range(goods)]


def drawn_case(draw):
    """Works and a market, few enough recipes to go through them all."""
    goods = draw.whole(1, 3)
    works = draw.works(goods, 5, 6) if draw.chance(1, 2) else draw.eating_works(goods)
    return works, drawn_market(draw, goods)


class TestMarket(unittest.TestCase):
    def test_right_ones(self):
        self.assertEqual(check_market(3, [None, HALF, TWO]), (None, HALF, TWO))
        self.assertIsInstance(check_market(3, [None, HALF, TWO]), tuple)
        self.assertEqual(check_market(1, (None,)), (None,))

    def test_faults_in_order(self):
        calls = (lambda market: check_market(2, market), lambda market: with_market(MADE, market),
                 lambda market: made_or_bought(MADE, market), lambda market: bought_until(MADE, market, None),
                 lambda market: buys_nothing(MADE, market))
        for call in calls:
            for thing in NO_SEQUENCES + ((), (None,), (None,) * 3, [ONE] * 3):
                fault(self, BadMarket, {"index": 0, "what": "length"}, call, thing)
            for thing in NO_RATIOS + (ZERO, (-1, 2)):
                if thing is not None:
                    fault(self, BadMarket, {"index": 0, "what": "price"}, call, (thing, thing))
                    fault(self, BadMarket, {"index": 1, "what": "price"}, call, [None, thing])
                    fault(self, BadMarket, {"index": 1, "what": "price"}, call, [ONE, thing])

    def test_with_market(self):
        told = with_market(MADE, [TWO, None])
        self.assertEqual(told, Works(2, MADE.recipes + (Recipe(0, TWO, (ZERO, ZERO)),)))
        told = with_market(MADE, (TWO, HALF))
        self.assertEqual(told.recipes[3:], (Recipe(0, TWO, (ZERO, ZERO)), Recipe(1, HALF, (ZERO, ZERO))))
        self.assertEqual(with_market(MADE, (None, None)), MADE)
        self.assertIsNot(with_market(MADE, (None, None)), MADE)

    def test_twelve_and_thirteen_recipes(self):
        market = (ONE, None, ONE, None, ONE)
        self.assertEqual(len(with_market(bare(9), market)), 12)
        for call in (with_market, made_or_bought, buys_nothing):
            fault(self, BadWorks, {"index": 0, "what": "many"}, call, bare(10), market)
            fault(self, BadMarket, {"index": 4, "what": "price"}, call, bare(12), (ONE, ONE, ONE, ONE, ZERO))
        self.assertEqual(made_or_bought(bare(9), market), ("bought", None, "bought", None, "bought"))
        # Without the good's own price there is room for one more.
        self.assertEqual(bought_until(bare(10), market, 0), (7, 1))
        self.assertIsNone(bought_until(bare(10), market, 2))
        fault(self, BadWorks, {"index": 0, "what": "many"}, bought_until, bare(10), market, 1)
        fault(self, BadWorks, {"index": 0, "what": "many"}, bought_until, bare(11), market, 0)
        for thing in NO_WHOLES + (5, -1):
            fault(self, NoGood, {"good": thing}, bought_until, bare(12), (ONE,) * 5, thing)


class TestBought(unittest.TestCase):
    def test_example(self):
        self.assertEqual(bought_until(MADE, (None, None), 1), (7, 4))
        self.assertEqual(bought_until(MADE, [None, (1, 9)], 1), (7, 4))

    def test_just_at_below_and_above(self):
        for price, word in (((7, 4), "made"), ((69, 40), "bought"), ((71, 40), "made")):
            market = (None, price)
            self.assertEqual(made_or_bought(MADE, market), ("made", word))
            self.assertIs(buys_nothing(MADE, market), word == "made")
        self.assertEqual(made_or_bought(MADE, [HALF, HALF]), ("bought", "bought"))
        self.assertEqual(made_or_bought(MADE, (None, None)), ("made", "made"))

    def test_goods_that_cannot_be_made(self):
        self.assertEqual(made_or_bought(LACKING, (None, None, None)), ("made", None, "made"))
        self.assertEqual(made_or_bought(LACKING, (None, (99, 1), None)), ("made", "bought", "made"))
        self.assertIsNone(bought_until(LACKING, (None, None, None), 1))
        self.assertIsNone(bought_until(LACKING, (None, ONE, None), 1))
        self.assertIs(buys_nothing(LACKING, (None, (99, 1), None)), False)
        self.assertIs(buys_nothing(LACKING, (TWO, None, (9, 1))), True)
        self.assertIs(buys_nothing(LACKING, (TWO, None, (89, 10))), False)
        # A market for good 1 lowers up to which price good 2 is bought.
        self.assertEqual(bought_until(LACKING, (None, None, None), 2), (9, 1))
        self.assertEqual(bought_until(LACKING, (None, THREE, None), 2), (4, 1))
        self.assertEqual(made_or_bought(Works(2, ()), (None, ONE)), (None, "bought"))
        self.assertIs(buys_nothing(Works(2, ()), (None, None)), True)

    def test_for_all_markets(self):
        draw = Draw(901)
        seen = {}
        for _ in range(150):
            works, market = drawn_case(draw)
            words = made_or_bought(works, list(market))
            is_plain(self, words)
            self.assertEqual(words, made_or_bought(works, tuple(market)))
            wide = with_market(works, market)
            for good, number in enumerate(best_manner(wide)):
                word = None if number is None else "made" if number < len(works) else "bought"
                self.assertEqual(words[good], word)
                without = market[:good] + [None] + market[good + 1:]
                limit = plain_greatest(with_market(works, without))[good]
                told = bought_until(works, market, good)
                self.assertEqual(told, None if limit is None else back(limit))
                self.assertEqual(told, bought_until(works, without, good))
                self.assertEqual(told, bought_until(works, market[:good] + [(1, 7)] + market[good + 1:], good))
                bought = market[good] is not None and (limit is None or limit > frac(market[good]))
                self.assertEqual(word == "bought", bought)
                seen[(word, limit is None)] = seen.get((word, limit is None), 0) + 1
            alone = plain_greatest(works)
            wanted = all(price is None or alone[good] is not None and frac(price) >= alone[good]
                         for good, price in enumerate(market))
            self.assertIs(buys_nothing(works, market), wanted)
            self.assertIs(wanted, "bought" not in words)
            seen[wanted] = seen.get(wanted, 0) + 1
        self.assertTrue(len(seen) >= 6 and min(seen.values()) > 10, seen)

    def test_buying_is_tight_up_to_the_limit(self):
        draw = Draw(902)
        tried = 0
        for _ in range(60):
            works, market = drawn_case(draw)
            good = draw.whole(0, works.goods - 1)
            limit = bought_until(works, market, good)
            prices = [(1, 10 ** 6), (10 ** 6, 1)] if limit is None else [
                back(frac(limit) + frac(more)) for more in ((-1, 10 ** 9), ZERO, (1, 10 ** 9))]
            for price in prices:
                changed = market[:good] + [price] + market[good + 1:]
                wide = with_market(works, changed)
                number = len(works) + sum(one is not None for one in changed[:good])
                tight = number in tight_recipes(wide)[good]
                self.assertIs(tight, limit is None or frac(price) <= frac(limit))
                if limit is not None:
                    least = min(frac(price), frac(limit))
                    self.assertEqual(frac(greatest_prices(wide)[good]), least)
                tried += limit is not None
        self.assertTrue(tried > 60, tried)

    def test_passed_lists_stay(self):
        market = [ONE, HALF]
        check_market(2, market), with_market(MADE, market), made_or_bought(MADE, market)
        bought_until(MADE, market, 0), buys_nothing(MADE, market)
        self.assertEqual(market, [ONE, HALF])


if __name__ == "__main__":
    unittest.main()
