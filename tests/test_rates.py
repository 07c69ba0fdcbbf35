import unittest

from leastlabour.errors import BadManner, BadParts, BadRate
from leastlabour.making import can_be_made
from leastlabour.ownrows import MannerRow, makes_all
from leastlabour.prices import greatest_prices
from leastlabour.rates import at_rate, check_rate, does_run, own_prices, runs_up_to
from leastlabour.ratios import ONE, ZERO
from leastlabour.works import Recipe, Works
from tests.drawing import (HALF, NO_RATIOS, NO_SEQUENCES, NO_WHOLES, Draw, back, fault, frac, is_plain, ratio_kinds)
from tests.plain import plain_greatest, plain_manners, plain_row, plain_whole
from tests.plainrates import plain_runs, wasted

TWO, THREE = (2, 1), (3, 1)
# Good 0 is made of 1/2 of itself: it can be made below rate 1. Good 1 is made of good 0, good 2 not at all.
WASTED = Works(3, [Recipe(0, ONE, (HALF, ZERO, ZERO)), Recipe(1, ONE, (ONE, ZERO, ZERO)),
                   Recipe(1, (9, 1), (ZERO,) * 3), Recipe(2, ONE, (ZERO, ZERO, TWO))])
FREE = Works(2, [Recipe(0, ONE, (ZERO, ZERO)), Recipe(1, TWO, (THREE, ZERO))])
RATES = (ZERO, (1, 10), HALF, (99, 100), ONE, (3, 2), THREE, (50, 1))


class TestAtRate(unittest.TestCase):
    def test_examples(self):
        self.assertEqual(at_rate(FREE, HALF), Works(2, [FREE.recipes[0], Recipe(1, TWO, ((9, 2), ZERO))]))
        self.assertEqual(at_rate(WASTED, ZERO), WASTED)
        self.assertEqual(at_rate(Works(2, ()), THREE), Works(2, ()))
        for rate in RATES:
            self.assertIs(check_rate(rate), rate)

    def test_drawn_works(self):
        draw = Draw(821)
        for _ in range(50):
            works, rate = draw.works(), draw.ratio(0, 3, 5)
            told = at_rate(works, rate)
            self.assertEqual(told, wasted(works, frac(rate)))
            self.assertIsNot(told, works)
            for recipe in told:
                ratio_kinds(self, recipe.eats)

    def test_faults(self):
        calls = (check_rate, lambda rate: at_rate(WASTED, rate), lambda rate: does_run(WASTED, rate),
                 lambda rate: own_prices(WASTED, (0, 1, None), rate))
        for call in calls:
            for thing in NO_RATIOS + ((-1, 2), (-1, 10 ** 30)):
                fault(self, BadRate, {}, call, thing)


class TestRuns(unittest.TestCase):
    def test_examples(self):
        self.assertEqual([does_run(WASTED, rate) for rate in RATES], [True] * 4 + [False] * 4)
        self.assertEqual([does_run(FREE, rate) for rate in RATES], [True] * 8)
        self.assertIs(does_run(Works(2, ()), THREE), True)
        # Goods that cannot be made at rate 0 do not count.
        self.assertIs(does_run(Works(1, [Recipe(0, ONE, (ONE,))]), THREE), True)
        # A good that is made otherwise from some rate on.
        works = Works(1, [Recipe(0, ONE, (HALF,)), Recipe(0, (9, 1), (ZERO,))])
        self.assertIs(does_run(works, (5, 1)), True)

    def test_up_to_which_rate(self):
        self.assertEqual(runs_up_to(WASTED, 10, 1000), 9)
        self.assertEqual(runs_up_to(WASTED, 10, 9), 9)
        self.assertEqual(runs_up_to(WASTED, 10, 8), 8)
        self.assertEqual(runs_up_to(WASTED, 10, 0), 0)
        self.assertEqual(runs_up_to(WASTED, 1, 1000), 0)
        self.assertEqual(runs_up_to(WASTED, 1000, 1000), 999)
        self.assertEqual(runs_up_to(FREE, 1, 1000), 1000)
        self.assertEqual(runs_up_to(FREE, 1000, 0), 0)
        # Works that run at 1/2 just not: the limit itself is left out.
        works = Works(1, [Recipe(0, ONE, ((2, 3),))])
        self.assertEqual([runs_up_to(works, parts, 1000) for parts in (1, 2, 3, 4, 10, 1000)], [0, 0, 1, 1, 4, 499])

    def test_faults_in_order(self):
        for thing in NO_WHOLES + (0, -1, 1001, 10 ** 9):
            fault(self, BadParts, {"what": "parts"}, runs_up_to, WASTED, thing, None)
        for thing in NO_WHOLES + (-1, 1001, 10 ** 9):
            fault(self, BadParts, {"what": "most"}, runs_up_to, WASTED, 1, thing)
            fault(self, BadParts, {"what": "most"}, runs_up_to, WASTED, 1000, thing)

    def test_drawn_works(self):
        draw = Draw(822)
        seen = {}
        for _ in range(80):
            works = draw.works(draw.whole(1, 4), 8, 8) if draw.chance(1, 4) else draw.eating_works()
            parts, most = draw.pick((1, 3, 10)), draw.whole(0, 30)
            told = [plain_runs(works, frac((0, 1)) + frac(back(frac((k, 1)) / parts))) for k in range(most + 1)]
            self.assertEqual(told, sorted(told, reverse=True))
            k = runs_up_to(works, parts, most)
            self.assertIs(k.__class__, int)
            self.assertEqual(told, [True] * (k + 1) + [False] * (most - k))
            seen[(k == 0, k == most)] = seen.get((k == 0, k == most), 0) + 1
            rate = back(frac((draw.whole(0, 30), 1)) / parts)
            runs = does_run(works, rate)
            self.assertIs(runs, plain_runs(works, frac(rate)))
            # They run exactly if some manner of the works can make at the rate.
            self.assertEqual(runs, any(plain_row(wasted(works, frac(rate)), manner) is not None
                                       for manner in plain_whole(works)))
        self.assertTrue(seen[(False, False)] > 5, seen)


class TestPricesAtRates(unittest.TestCase):
    def test_a_lesser_rate_makes_more_and_cheaper(self):
        draw = Draw(823)
        same, dearer, lost = 0, 0, 0
        for _ in range(120):
            works = draw.works(draw.whole(1, 4), 8, 7) if draw.chance(1, 4) else draw.eating_works()
            rate = draw.ratio(0, 1, 4)
            more = back(frac(rate) + frac(draw.pick(((1, 10), HALF, ONE))))
            low, high = greatest_prices(at_rate(works, rate)), greatest_prices(at_rate(works, more))
            self.assertEqual([one and frac(one) for one in low], plain_greatest(wasted(works, frac(rate))))
            for good in range(works.goods):
                if high[good] is None:
                    lost += low[good] is not None
                    continue
                self.assertTrue(frac(low[good]) <= frac(high[good]))
                bare = any(recipe.good == good and recipe.labour == low[good] and not any(one[0] for one in recipe.eats)
                           for recipe in works)
                self.assertEqual(low[good] == high[good], bare)
                same += bare
                dearer += not bare
            self.assertEqual(set(can_be_made(at_rate(works, more))) - set(can_be_made(at_rate(works, rate))), set())
        self.assertTrue(min(same, dearer, lost) > 10, (same, dearer, lost))

    def test_own_prices(self):
        self.assertEqual(own_prices(WASTED, (0, 1, None), HALF), ((4, 1), (7, 1), None))
        self.assertEqual(own_prices(WASTED, [0, 2, None], HALF), ((4, 1), (9, 1), None))
        self.assertEqual(own_prices(WASTED, (None, 2, None), (100, 1)), (None, (9, 1), None))
        self.assertEqual(own_prices(WASTED, (None,) * 3, ONE), (None,) * 3)
        self.assertIsNone(own_prices(WASTED, (0, 1, None), ONE))
        self.assertIsNone(own_prices(WASTED, (0, 1, None), THREE))
        self.assertIsNone(own_prices(WASTED, (None, None, 3), ZERO))
        self.assertIsNone(own_prices(WASTED, (0, 1, 3), ZERO))

    def test_faults_in_order(self):
        for thing in NO_SEQUENCES + ((), (0, 1), (None, 1, None), (1, 0, None), (0, 4, None), (False, 1, None)):
            fault(self, BadManner, {}, own_prices, WASTED, thing, None)

    def test_drawn_manners(self):
        draw = Draw(824)
        made, not_made = 0, 0
        for _ in range(80):
            works = draw.works(draw.whole(1, 4), 7, 6)
            manners = list(plain_manners(works))
            manner, rate = draw.pick(manners), draw.ratio(0, 1, 6)
            told = own_prices(works, list(manner), rate)
            row = plain_row(wasted(works, frac(rate)), manner)
            if row is None:
                self.assertIsNone(told)
                not_made += 1
                continue
            is_plain(self, told)
            self.assertEqual([one and frac(one) for one in told], [row.get(good) for good in range(works.goods)])
            self.assertIs(makes_all(at_rate(works, rate), manner).__class__, MannerRow)
            made += any(entry is not None for entry in manner)
            lesser = back(frac(rate) * frac(HALF))
            self.assertIsNotNone(own_prices(works, manner, lesser))
        self.assertTrue(min(made, not_made) > 10, (made, not_made))

    def test_passed_lists_stay(self):
        manner = [0, 1, None]
        own_prices(WASTED, manner, HALF)
        self.assertEqual(manner, [0, 1, None])


if __name__ == "__main__":
    unittest.main()
