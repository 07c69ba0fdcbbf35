import unittest

from leastlabour.errors import BadWish, BadWorks, NotMade, UnlikeGoods
from leastlabour.frontiers import frontier_of, least_first, least_second
from leastlabour.ratios import ONE, ZERO
from leastlabour.serving import least_labour
from leastlabour.shares import Stretch, cuts_of, share_list
from leastlabour.trade import Gain, Idle, Pays, compare_lands, trade_gain, two_lands
from leastlabour.twoworks import TwoRecipe, TwoWorks
from leastlabour.works import Recipe, Works
from tests.drawing import HALF, NO_RATIOS, NO_SEQUENCES, Draw, back, fault, frac, ratio_kinds
from tests.plain import plain_greatest, plain_made
from tests.test_making import EXAMPLE

TWO, THREE = (2, 1), (3, 1)


def bare_works(*labours):
    """One recipe a good, each eating nothing."""
    goods = len(labours)
    return Works(goods, [Recipe(good, labour, (ZERO,) * goods) for good, labour in enumerate(labours)])


OURS, THEIRS = bare_works(ONE, TWO), bare_works(THREE, TWO)
ONES = (ONE, ONE)


def drawn_lands(draw, whole=True):
    """Two lands of as many goods, each of which makes all goods where that is asked."""
    goods = draw.whole(1, 3)
    lands = []
    while len(lands) < 2:
        works = draw.works(goods, 5, 8)
        if not whole or plain_made(works) == tuple(range(goods)):
            lands.append(works)
    return lands


class TestTwoLands(unittest.TestCase):
    def test_example(self):
        two = two_lands(OURS, THEIRS)
        self.assertEqual(two, TwoWorks(2, [TwoRecipe(0, ONE, ZERO, (ZERO, ZERO)), TwoRecipe(1, TWO, ZERO, (ZERO, ZERO)),
                                           TwoRecipe(0, ZERO, THREE, (ZERO, ZERO)),
                                           TwoRecipe(1, ZERO, TWO, (ZERO, ZERO))]))
        self.assertEqual(cuts_of(two), ((1, 4), HALF))
        self.assertEqual(share_list(two), (Stretch(ZERO, (1, 4), (2, 3)), Stretch((1, 4), HALF, (0, 3)),
                                           Stretch(HALF, ONE, (0, 1))))
        self.assertEqual(frontier_of(two, ONES), ((ZERO, (5, 1)), (ONE, TWO), (THREE, ZERO)))

    def test_drawn(self):
        draw = Draw(301)
        for _ in range(40):
            one, other = drawn_lands(draw, False)
            two = two_lands(one, other)
            self.assertEqual((two.goods, len(two)), (one.goods, len(one) + len(other)))
            for recipe, told in zip(one, two):
                self.assertEqual((told.good, told.first, told.second, told.eats),
                                 (recipe.good, recipe.labour, ZERO, recipe.eats))
            for recipe, told in zip(other, two.recipes[len(one):]):
                self.assertEqual((told.good, told.first, told.second, told.eats),
                                 (recipe.good, ZERO, recipe.labour, recipe.eats))

    def test_faults(self):
        recipe = Recipe(0, ONE, (ZERO,))
        six, seven = Works(1, [recipe] * 6), Works(1, [recipe] * 7)
        self.assertEqual(len(two_lands(six, six)), 12)
        for call, more in ((two_lands, ()), (trade_gain, (None, None)), (compare_lands, ())):
            fault(self, UnlikeGoods, {}, call, OURS, Works(3, ()), *more)
            fault(self, UnlikeGoods, {}, call, Works(1, [recipe] * 12), OURS, *more)
            fault(self, BadWorks, {"index": 0, "what": "many"}, call, six, seven, *more)
            fault(self, BadWorks, {"index": 0, "what": "many"}, call, Works(1, [recipe] * 12), Works(1, [recipe] * 12),
                  *more)
        self.assertEqual(two_lands(Works(2, ()), Works(2, ())), TwoWorks(2, ()))


class TestGain(unittest.TestCase):
    def test_example(self):
        self.assertEqual(trade_gain(OURS, THEIRS, ONES, ONES), Gain(THREE, (5, 1), (4, 3), TWO))
        self.assertEqual(trade_gain(OURS, THEIRS, [ZERO, ZERO], [ZERO, ZERO]), Gain(ZERO, ZERO, ZERO, ZERO))
        self.assertEqual(trade_gain(OURS, OURS, ONES, ONES), Gain(THREE, THREE, ZERO, ZERO))

    def test_without_recipes(self):
        bare = Works(2, ())
        self.assertEqual(trade_gain(bare, bare, (ZERO, ZERO), (ZERO, ZERO)), Gain(ZERO, ZERO, ZERO, ZERO))
        self.assertEqual(trade_gain(bare, OURS, (ZERO, ZERO), ONES), Gain(ZERO, THREE, ZERO, ZERO))

    def test_one_land_that_wishes_nothing(self):
        self.assertEqual(trade_gain(OURS, THEIRS, ONES, (ZERO, ZERO)), Gain(THREE, ZERO, ZERO, ZERO))
        self.assertEqual(trade_gain(OURS, THEIRS, (ZERO, ZERO), ONES), Gain(ZERO, (5, 1), ZERO, ZERO))

    def test_drawn_lands(self):
        draw = Draw(302)
        gains = 0
        for _ in range(120):
            one, other = drawn_lands(draw)
            wish, other_wish = draw.row(one.goods, 0, 3, 3), draw.row(one.goods, 0, 3, 3)
            told = trade_gain(one, other, list(wish), list(other_wish))
            self.assertIs(told.__class__, Gain)
            ratio_kinds(self, (told.first, told.second, told.saved_first, told.saved_second))
            self.assertEqual((told.first, told.second), (least_labour(one, wish), least_labour(other, other_wish)))
            self.assertEqual(frac(told.first), sum(p * frac(w) for p, w in zip(plain_greatest(one), wish)))
            two, both = two_lands(one, other), [back(frac(a) + frac(b)) for a, b in zip(wish, other_wish)]
            self.assertEqual(frac(told.saved_first), frac(told.first) - frac(least_first(two, both, told.second)))
            self.assertEqual(frac(told.saved_second), frac(told.second) - frac(least_second(two, both, told.first)))
            # Both gain, or none does.
            self.assertEqual(told.saved_first[0] > 0, told.saved_second[0] > 0)
            self.assertTrue(told.saved_first[0] >= 0 and told.saved_second[0] >= 0)
            gains += told.saved_first[0] > 0
            self.assertEqual(trade_gain(one, other, wish, other_wish), told)
            if compare_lands(one, other).__class__ is Idle:
                self.assertEqual((told.saved_first, told.saved_second), (ZERO, ZERO))
        self.assertTrue(20 < gains < 100, gains)

    def test_faults(self):
        for thing in NO_SEQUENCES + ((), (ONE,), (ONE,) * 3, (ONE, (-1, 2))):
            fault(self, BadWish, {}, trade_gain, OURS, THEIRS, thing, None)
            fault(self, BadWish, {}, trade_gain, OURS, THEIRS, ONES, thing)
            fault(self, BadWish, {}, trade_gain, Works(2, ()), THEIRS, ONES, thing)
        for thing in NO_RATIOS:
            fault(self, BadWish, {}, trade_gain, OURS, THEIRS, (thing, ONE), ONES)
            fault(self, BadWish, {}, trade_gain, OURS, THEIRS, ONES, (thing, ONE))
        # Each land has to serve its own wish alone.
        half = Works(2, [Recipe(0, ONE, (ZERO, ZERO))])
        fault(self, NotMade, {"good": 1}, trade_gain, half, THEIRS, ONES, ONES)
        fault(self, NotMade, {"good": 0}, trade_gain, Works(2, ()), half, ONES, ONES)
        fault(self, NotMade, {"good": 1}, trade_gain, THEIRS, half, ONES, ONES)
        self.assertEqual(trade_gain(half, THEIRS, (ONE, ZERO), ONES).first, ONE)


class TestCompare(unittest.TestCase):
    def test_example(self):
        self.assertEqual(compare_lands(OURS, THEIRS), Pays(0, 1))
        self.assertEqual(compare_lands(THEIRS, OURS), Pays(1, 0))
        self.assertEqual(compare_lands(OURS, OURS), Idle(HALF))
        self.assertEqual(compare_lands(OURS, bare_works(TWO, (4, 1))), Idle((1, 3)))
        self.assertEqual(compare_lands(bare_works(THREE), bare_works(ONE)), Idle((3, 4)))

    def test_first_couple(self):
        self.assertEqual(compare_lands(bare_works(ONE, ONE, ONE), bare_works(TWO, TWO, ONE)), Pays(0, 2))
        self.assertEqual(compare_lands(bare_works(ONE, ONE, ONE), bare_works(TWO, ONE, ONE)), Pays(0, 1))
        self.assertEqual(compare_lands(bare_works(ONE, ONE, TWO), bare_works(ONE, TWO, ONE)), Pays(1, 0))
        self.assertEqual(compare_lands(bare_works(ONE, ONE, TWO), bare_works(ONE, ONE, ONE)), Pays(0, 2))

    def test_nearly_in_one_proportion(self):
        long = 10 ** 150
        one, other = bare_works((long, 1), (long + 1, 1)), bare_works((long + 1, 1), (long + 2, 1))
        told = compare_lands(one, other)
        self.assertEqual(told, Pays(0, 1))
        gain = trade_gain(one, other, ONES, ONES)
        self.assertTrue(gain.saved_first[0] > 0 and gain.saved_second[0] > 0)
        self.assertEqual(compare_lands(one, bare_works((2 * long, 3), (2 * long + 2, 3))).__class__, Idle)

    def test_drawn_lands(self):
        draw = Draw(303)
        kinds = {}
        for _ in range(150):
            one, other = drawn_lands(draw)
            if draw.chance(1, 3):
                other = one.times_labour(back(frac(draw.ratio(1, 9)) / 2))
            told = compare_lands(one, other)
            kinds[told.__class__] = kinds.get(told.__class__, 0) + 1
            p, q = plain_greatest(one), plain_greatest(other)
            couples = [(g, h) for g in range(one.goods) for h in range(g + 1, one.goods) if p[g] * q[h] != p[h] * q[g]]
            if not couples:
                self.assertIs(told.__class__, Idle)
                ratio_kinds(self, (told.share,))
                share = frac(told.share)
                self.assertTrue(all((1 - share) * a == share * b for a, b in zip(p, q)))
                continue
            g, h = couples[0]
            self.assertEqual({told.one_sells, told.other_sells}, {g, h})
            sold, bought = told.one_sells, told.other_sells
            self.assertTrue(p[sold] / p[bought] < q[sold] / q[bought])
            wish = tuple(ONE if good in (g, h) else ZERO for good in range(one.goods))
            gain = trade_gain(one, other, wish, wish)
            self.assertTrue(gain.saved_first[0] > 0 and gain.saved_second[0] > 0)
        self.assertTrue(min(kinds.values()) > 30, kinds)

    def test_idle_lands_gain_nothing(self):
        draw = Draw(304)
        for _ in range(40):
            one, _ = drawn_lands(draw)
            other = one.times_labour(back(frac(draw.ratio(1, 9)) / 4))
            wish, other_wish = draw.row(one.goods, 0, 3), draw.row(one.goods, 0, 3)
            gain = trade_gain(one, other, wish, other_wish)
            self.assertEqual((gain.saved_first, gain.saved_second), (ZERO, ZERO))

    def test_faults(self):
        full = bare_works(ONE, ONE, ONE)
        fault(self, NotMade, {"good": 2}, compare_lands, EXAMPLE, full)
        fault(self, NotMade, {"good": 2}, compare_lands, full, EXAMPLE)
        fault(self, NotMade, {"good": 2}, compare_lands, EXAMPLE, Works(3, ()))
        fault(self, NotMade, {"good": 0}, compare_lands, Works(3, ()), EXAMPLE)


if __name__ == "__main__":
    unittest.main()
