import unittest

from leastlabour.errors import BadAmounts, BadManner, BadRecipe, BadShare, BadWorks, NoRecipe
from leastlabour.joint import JointWorks
from leastlabour.making import can_be_made
from leastlabour.ownrows import MannerRow, makes_all
from leastlabour.ratios import ONE, ZERO
from leastlabour.twoworks import TwoRecipe, TwoWorks, at_share, own_needs
from leastlabour.wishes import check_amounts, net_of, serves
from leastlabour.works import Recipe, Works
from tests.drawing import (HALF, NO_RATIOS, NO_SEQUENCES, NO_WHOLES, Draw, back, fault, frac, fracs, is_plain,
                           ratio_kinds)
from tests.plain import plain_made, plain_manners, plain_net
from tests.plaintwo import plain_needs

TWO = (2, 1)
NO_SHARES = NO_RATIOS + ((-1, 2), (3, 2), (2, 1), (-1, 10 ** 90), (10 ** 90 + 1, 10 ** 90))
# Good 0 by either labour; good 1 of good 0; good 2 cannot be made.
BOTH = TwoWorks(3, [TwoRecipe(0, ONE, ZERO, (ZERO,) * 3), TwoRecipe(0, ZERO, TWO, (HALF, ZERO, ZERO)),
                    TwoRecipe(1, HALF, HALF, (ONE, ZERO, ZERO)), TwoRecipe(2, ONE, ONE, (ZERO, ZERO, ONE))])
NONE = TwoWorks(2, ())


class TestRecipe(unittest.TestCase):
    def test_attributes(self):
        eats = [HALF, ZERO]
        recipe = TwoRecipe(1, (3, 2), ZERO, eats)
        eats[0] = ONE
        self.assertEqual((recipe.good, recipe.first, recipe.second, recipe.eats), (1, (3, 2), ZERO, (HALF, ZERO)))
        is_plain(self, recipe.eats)
        self.assertEqual(TwoRecipe(good=4, first=ZERO, second=ONE, eats=[ZERO] * 5).second, ONE)

    def test_errors_in_order(self):
        for thing in NO_WHOLES + (-1, 5):
            fault(self, BadRecipe, {"what": "good"}, TwoRecipe, thing, None, None, None)
        for thing in NO_RATIOS + ((-1, 2),):
            fault(self, BadRecipe, {"what": "first"}, TwoRecipe, 4, thing, None, None)
            fault(self, BadRecipe, {"what": "second"}, TwoRecipe, 4, ZERO, thing, None)
        fault(self, BadRecipe, {"what": "both"}, TwoRecipe, 4, ZERO, ZERO, None)
        for thing in NO_SEQUENCES + ((), [ZERO] * 6, [(-1, 2)], (ONE, (-1, 1))):
            fault(self, BadRecipe, {"what": "eats"}, TwoRecipe, 4, ZERO, ONE, thing)
        for thing in NO_RATIOS:
            fault(self, BadRecipe, {"what": "eats"}, TwoRecipe, 4, ONE, ZERO, [thing])
        for good in range(1, 5):
            fault(self, BadRecipe, {"what": "place"}, TwoRecipe, good, ONE, ONE, [ZERO] * good)
            self.assertEqual(TwoRecipe(good, ONE, ONE, [ZERO] * (good + 1)).good, good)

    def test_equality(self):
        one = TwoRecipe(0, ONE, TWO, [ZERO, HALF])
        self.assertTrue(one == TwoRecipe(0, ONE, TWO, (ZERO, HALF)))
        for other in (TwoRecipe(1, ONE, TWO, (ZERO, HALF)), TwoRecipe(0, TWO, TWO, (ZERO, HALF)),
                      TwoRecipe(0, ONE, ONE, (ZERO, HALF)), TwoRecipe(0, ONE, TWO, (ZERO, ONE)),
                      Recipe(0, ONE, (ZERO, HALF)), None):
            self.assertFalse(one == other)
            self.assertTrue(one != other)


class TestWorks(unittest.TestCase):
    def test_attributes_len_and_iteration(self):
        recipes = list(BOTH.recipes)
        two = TwoWorks(3, recipes)
        recipes.pop()
        self.assertEqual((two.goods, len(two)), (3, 4))
        self.assertIsInstance(two.recipes, tuple)
        self.assertEqual(list(two), list(BOTH.recipes))
        self.assertEqual((len(NONE), list(NONE)), (0, []))

    def test_errors(self):
        recipe = TwoRecipe(0, ONE, ONE, (ZERO,))
        for thing in NO_WHOLES + (0, 6, -1):
            fault(self, BadWorks, {"index": 0, "what": "goods"}, TwoWorks, thing, None)
        self.assertEqual(len(TwoWorks(1, [recipe] * 12)), 12)
        for thing in NO_SEQUENCES + ([recipe] * 13, [None] * 13):
            fault(self, BadWorks, {"index": 0, "what": "many"}, TwoWorks, 1, thing)
        wide = TwoRecipe(0, ONE, ONE, (ZERO, ZERO))
        fault(self, BadWorks, {"index": 0, "what": "recipe"}, TwoWorks, 1, [Recipe(0, ONE, (ZERO,))])
        fault(self, BadWorks, {"index": 1, "what": "eats"}, TwoWorks, 1, [recipe, wide, None])
        fault(self, BadWorks, {"index": 1, "what": "recipe"}, TwoWorks, 1, (recipe, None, wide))

    def test_equality(self):
        self.assertTrue(BOTH == TwoWorks(3, list(BOTH.recipes)))
        self.assertFalse(BOTH == TwoWorks(3, BOTH.recipes[::-1]))
        self.assertFalse(BOTH == BOTH.swapped())
        self.assertFalse(NONE == TwoWorks(3, ()))
        for other in (Works(2, ()), JointWorks(2, ()), (), None):
            self.assertFalse(NONE == other)
            self.assertTrue(NONE != other)
        self.assertFalse(Works(2, ()) == NONE)

    def test_swapped(self):
        told = BOTH.swapped()
        self.assertIs(told.__class__, TwoWorks)
        for one, other in zip(BOTH, told):
            self.assertEqual((other.good, other.first, other.second, other.eats),
                             (one.good, one.second, one.first, one.eats))
        self.assertEqual(told.swapped(), BOTH)
        self.assertEqual(NONE.swapped(), NONE)

    def test_with_and_without(self):
        recipe = TwoRecipe(2, ONE, ZERO, (ZERO,) * 3)
        more = BOTH.with_recipe(recipe)
        self.assertEqual(more, TwoWorks(3, BOTH.recipes + (recipe,)))
        self.assertEqual(more.without_recipe(4), BOTH)
        self.assertEqual(BOTH.without_recipe(1), TwoWorks(3, BOTH.recipes[:1] + BOTH.recipes[2:]))
        fault(self, BadWorks, {"index": 4, "what": "recipe"}, BOTH.with_recipe, Recipe(0, ONE, (ZERO,) * 3))
        fault(self, BadWorks, {"index": 4, "what": "recipe"}, BOTH.with_recipe, None)
        fault(self, BadWorks, {"index": 4, "what": "eats"}, BOTH.with_recipe, TwoRecipe(0, ONE, ONE, (ZERO,)))
        full = TwoWorks(1, [TwoRecipe(0, ONE, ONE, (ZERO,))] * 12)
        fault(self, BadWorks, {"index": 0, "what": "many"}, full.with_recipe, None)
        for thing in NO_WHOLES + (4, -1):
            fault(self, NoRecipe, {"number": thing}, BOTH.without_recipe, thing)
        fault(self, NoRecipe, {"number": 0}, NONE.without_recipe, 0)


class TestAmounts(unittest.TestCase):
    def test_drawn(self):
        draw = Draw(271)
        for _ in range(60):
            two = draw.two_works()
            amounts, wish = draw.row(len(two), 0, 3, 3), draw.row(two.goods, 0, 2, 4)
            self.assertEqual(check_amounts(two, list(amounts)), amounts)
            self.assertEqual(fracs(net_of(two, amounts)), plain_net(two, amounts))
            enough = all(left >= asked for left, asked in zip(plain_net(two, amounts), fracs(wish)))
            self.assertIs(serves(two, amounts, wish), enough)
        for thing in NO_SEQUENCES + ((), (ONE,) * 3, (ONE,) * 5, (ONE, ONE, ONE, (-1, 2))):
            fault(self, BadAmounts, {}, check_amounts, BOTH, thing)


class TestAtShare(unittest.TestCase):
    def test_example(self):
        told = at_share(BOTH, (1, 4))
        self.assertIs(told.__class__, Works)
        self.assertEqual([recipe.labour for recipe in told], [(3, 4), HALF, HALF, ONE])
        self.assertEqual(at_share(NONE, HALF), Works(2, ()))

    def test_drawn(self):
        draw = Draw(272)
        for _ in range(60):
            two, share = draw.two_works(), back(frac(draw.ratio(1, 8, 3)) / 9)
            told = at_share(two, share)
            self.assertEqual((told.goods, len(told)), (two.goods, len(two)))
            for one, other in zip(two, told):
                labour = (1 - frac(share)) * frac(one.first) + frac(share) * frac(one.second)
                self.assertEqual((other.good, frac(other.labour), other.eats), (one.good, labour, one.eats))
            self.assertEqual(can_be_made(told), plain_made(at_share(two, HALF)))

    def test_no_shares(self):
        for thing in NO_SHARES + (ZERO, ONE):
            fault(self, BadShare, {}, at_share, BOTH, thing)
        long = 10 ** 90
        self.assertEqual(at_share(BOTH, (1, long)).recipes[1].labour, (1, long // 2))
        self.assertEqual(at_share(BOTH, (long - 1, long)).recipes[0].labour, (1, long))


class TestOwnNeeds(unittest.TestCase):
    def test_example(self):
        self.assertEqual(own_needs(BOTH, (0, 2, None)), ((ONE, ZERO), ((3, 2), HALF), None))
        self.assertEqual(own_needs(BOTH, [1, 2, None]), ((ZERO, (4, 1)), (HALF, (9, 2)), None))
        self.assertEqual(own_needs(BOTH, (1, None, None)), ((ZERO, (4, 1)), None, None))
        self.assertEqual(own_needs(BOTH, (None,) * 3), (None,) * 3)
        self.assertIsNone(own_needs(BOTH, (0, 2, 3)))
        self.assertEqual(own_needs(NONE, [None, None]), (None, None))

    def test_drawn(self):
        draw = Draw(273)
        kinds = [0, 0]
        for _ in range(100):
            two = draw.two_works(most=6, zeros=draw.pick((4, 7)))
            works = at_share(two, back(frac(draw.ratio(1, 8, 1)) / 9))
            for manner in plain_manners(works):
                told, needs = own_needs(two, list(manner)), plain_needs(two, manner)
                kinds[told is None] += 1
                self.assertEqual(told is None, needs is None)
                self.assertEqual(makes_all(works, manner).__class__ is MannerRow, needs is not None)
                if told is None:
                    continue
                is_plain(self, told)
                for good, couple in enumerate(told):
                    self.assertEqual(couple is None, manner[good] is None)
                    if couple is not None:
                        ratio_kinds(self, couple)
                        self.assertEqual(tuple(fracs(couple)), needs[good])
        self.assertTrue(min(kinds) > 50, kinds)

    def test_no_manners(self):
        for thing in NO_SEQUENCES + ((), (0, 2), (0, 2, None, None), (None, 2, None), (True, None, None),
                                     (2, None, None), (4, None, None), ("0", None, None), (-1, None, None)):
            fault(self, BadManner, {}, own_needs, BOTH, thing)


if __name__ == "__main__":
    unittest.main()
