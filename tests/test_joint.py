import unittest

from leastlabour.errors import BadAmounts, BadPrices, BadRecipe, BadWish, BadWorks
from leastlabour.joint import JointRecipe, JointWorks, as_joint, joint_net, joint_serves, joint_undercut
from leastlabour.ratios import ONE, ZERO
from leastlabour.wishes import check_amounts, labour_of
from leastlabour.works import Recipe, Works
from tests.drawing import (HALF, NO_RATIOS, NO_SEQUENCES, NO_WHOLES, Draw, fault, frac, fracs, is_plain, ratio_kinds,
                           summed)
from tests.plainjoint import is_let_row, plain_joint_net, plain_left

TWO = (2, 1)
# Recipe 0 makes both goods, recipe 1 eats what it makes, recipe 2 eats good 0 for good 1.
SHEEP = JointWorks(2, [JointRecipe(TWO, (ZERO, ZERO), (ONE, HALF)), JointRecipe(ONE, (HALF, ZERO), (ONE, ZERO)),
                       JointRecipe(HALF, (ONE, ZERO), (ZERO, TWO))])
BARE = JointWorks(2, ())


class TestRecipe(unittest.TestCase):
    def test_attributes(self):
        eats, makes = [HALF, ZERO], [ZERO, TWO]
        recipe = JointRecipe((3, 2), eats, makes)
        eats[0], makes[0] = ONE, ONE
        self.assertEqual((recipe.labour, recipe.eats, recipe.makes), ((3, 2), (HALF, ZERO), (ZERO, TWO)))
        is_plain(self, recipe.eats)
        is_plain(self, recipe.makes)
        self.assertEqual(JointRecipe(labour=ONE, eats=[ZERO] * 5, makes=[ONE] * 5).makes, (ONE,) * 5)

    def test_errors_in_order(self):
        for thing in NO_RATIOS + (ZERO, (-1, 2)):
            fault(self, BadRecipe, {"what": "labour"}, JointRecipe, thing, None, None)
        for thing in NO_SEQUENCES + ((), [ZERO] * 6, [(-1, 2)], (ONE, (-1, 1))):
            fault(self, BadRecipe, {"what": "eats"}, JointRecipe, ONE, thing, None)
        for thing in NO_RATIOS:
            fault(self, BadRecipe, {"what": "eats"}, JointRecipe, ONE, (ZERO, thing), None)
        for thing in NO_SEQUENCES + ((), [ONE], [ONE] * 3, (ONE, (-1, 2))):
            fault(self, BadRecipe, {"what": "makes"}, JointRecipe, ONE, (ZERO, ZERO), thing)
        for thing in NO_RATIOS:
            fault(self, BadRecipe, {"what": "makes"}, JointRecipe, ONE, (ZERO, ZERO), (ONE, thing))
        for goods in range(1, 6):
            fault(self, BadRecipe, {"what": "nothing"}, JointRecipe, ONE, (ONE,) * goods, [ZERO] * goods)

    def test_equality(self):
        one = JointRecipe(ONE, (ZERO, HALF), [ONE, ZERO])
        self.assertTrue(one == JointRecipe(ONE, [ZERO, HALF], (ONE, ZERO)))
        for other in (JointRecipe(TWO, (ZERO, HALF), (ONE, ZERO)), JointRecipe(ONE, (ZERO, ONE), (ONE, ZERO)),
                      JointRecipe(ONE, (ZERO, HALF), (ONE, ONE)), Recipe(0, ONE, (ZERO, HALF)), None):
            self.assertFalse(one == other)
            self.assertTrue(one != other)


class TestWorks(unittest.TestCase):
    def test_attributes_len_and_iteration(self):
        recipes = list(SHEEP.recipes)
        works = JointWorks(2, recipes)
        recipes.pop()
        self.assertEqual((works.goods, len(works)), (2, 3))
        self.assertIsInstance(works.recipes, tuple)
        self.assertEqual(list(works), list(SHEEP.recipes))
        self.assertEqual((len(BARE), list(BARE)), (0, []))

    def test_goods_and_many(self):
        recipe = JointRecipe(ONE, (ZERO,), (ONE,))
        for thing in NO_WHOLES + (0, 6, -1):
            fault(self, BadWorks, {"index": 0, "what": "goods"}, JointWorks, thing, None)
        self.assertEqual(len(JointWorks(1, [recipe] * 8)), 8)
        for thing in NO_SEQUENCES + ([recipe] * 9, [None] * 9, [recipe] * 12):
            fault(self, BadWorks, {"index": 0, "what": "many"}, JointWorks, 1, thing)

    def test_recipe_by_recipe(self):
        good, short = JointRecipe(ONE, (ZERO, ZERO), (ONE, ONE)), JointRecipe(ONE, (ZERO,), (ONE,))
        fault(self, BadWorks, {"index": 0, "what": "recipe"}, JointWorks, 2, [Recipe(0, ONE, (ZERO, ZERO))])
        fault(self, BadWorks, {"index": 1, "what": "eats"}, JointWorks, 2, [good, short, None])
        fault(self, BadWorks, {"index": 1, "what": "recipe"}, JointWorks, 2, [good, None, short])
        fault(self, BadWorks, {"index": 0, "what": "eats"}, JointWorks, 3, [good])

    def test_equality(self):
        self.assertTrue(SHEEP == JointWorks(2, list(SHEEP.recipes)))
        self.assertFalse(SHEEP == JointWorks(2, SHEEP.recipes[:2]))
        self.assertFalse(SHEEP == JointWorks(2, SHEEP.recipes[::-1]))
        self.assertFalse(BARE == JointWorks(3, ()))
        self.assertFalse(BARE == Works(2, ()))
        self.assertFalse(Works(2, ()) == BARE)
        self.assertTrue(SHEEP != SHEEP.recipes)


class TestAsJoint(unittest.TestCase):
    def test_drawn(self):
        draw = Draw(221)
        for _ in range(40):
            works = draw.works(most=8)
            told = as_joint(works)
            self.assertIs(told.__class__, JointWorks)
            self.assertEqual((told.goods, len(told)), (works.goods, len(works)))
            for one, other in zip(works, told):
                self.assertEqual((other.labour, other.eats), (one.labour, one.eats))
                self.assertEqual(other.makes, tuple(ONE if one.good == g else ZERO for g in range(works.goods)))

    def test_8_and_9_recipes(self):
        recipe = Recipe(0, ONE, (ZERO,))
        self.assertEqual(len(as_joint(Works(1, [recipe] * 8))), 8)
        for many in (9, 12):
            fault(self, BadWorks, {"index": 0, "what": "many"}, as_joint, Works(1, [recipe] * many))
        self.assertEqual(as_joint(Works(3, ())), JointWorks(3, ()))


class TestAmounts(unittest.TestCase):
    def test_example(self):
        self.assertEqual(joint_net(SHEEP, (ONE, TWO, ONE)), (ONE, (5, 2)))
        self.assertEqual(joint_net(SHEEP, [ZERO, ZERO, ONE]), ((-1, 1), TWO))
        self.assertIs(joint_serves(SHEEP, (ONE, TWO, ONE), (ONE, TWO)), True)
        self.assertIs(joint_serves(SHEEP, [ONE, TWO, ONE], [ONE, (5, 2)]), True)
        self.assertIs(joint_serves(SHEEP, (ONE, TWO, ONE), (ONE, (13, 5))), False)
        self.assertEqual(labour_of(SHEEP, (ONE, TWO, ONE)), (9, 2))
        self.assertEqual(check_amounts(SHEEP, [ONE, TWO, ONE]), (ONE, TWO, ONE))
        self.assertEqual(joint_net(BARE, ()), (ZERO, ZERO))
        self.assertIs(joint_serves(BARE, (), (ZERO, ZERO)), True)
        self.assertIs(joint_serves(BARE, (), (ZERO, HALF)), False)

    def test_drawn(self):
        draw = Draw(222)
        for _ in range(80):
            works = draw.joint_works(zeros=5)
            amounts, wish = draw.row(len(works), 0, 4, 3), draw.row(works.goods, 0, 3, 4)
            net = joint_net(works, list(amounts))
            self.assertIsInstance(net, tuple)
            ratio_kinds(self, net)
            self.assertEqual(fracs(net), plain_joint_net(works, amounts))
            enough = all(left >= asked for left, asked in zip(fracs(net), fracs(wish)))
            self.assertIs(joint_serves(works, amounts, wish), enough)
            labour = summed(fracs(amounts), [frac(recipe.labour) for recipe in works])
            self.assertEqual(frac(labour_of(works, amounts)), labour)

    def test_faults(self):
        for thing in NO_SEQUENCES + ((), (ONE, ONE), (ONE,) * 4, (ONE, ONE, (-1, 2))):
            fault(self, BadAmounts, {}, joint_net, SHEEP, thing)
            fault(self, BadAmounts, {}, joint_serves, SHEEP, thing, None)
            fault(self, BadAmounts, {}, check_amounts, SHEEP, thing)
        for thing in NO_RATIOS:
            fault(self, BadAmounts, {}, joint_net, SHEEP, (ONE, thing, ONE))
            fault(self, BadWish, {}, joint_serves, SHEEP, (ONE, ONE, ONE), (ONE, thing))
        for thing in NO_SEQUENCES + ((), (ONE,), (ONE,) * 3, (ONE, (-1, 2))):
            fault(self, BadWish, {}, joint_serves, SHEEP, (ONE, ONE, ONE), thing)


class TestUndercut(unittest.TestCase):
    def test_example(self):
        self.assertIsNone(joint_undercut(SHEEP, (ZERO, ZERO)))
        self.assertIsNone(joint_undercut(SHEEP, [(3, 2), ONE]))
        self.assertEqual(joint_undercut(SHEEP, (TWO, ONE)), 0)
        self.assertEqual(joint_undercut(SHEEP, (ZERO, ONE)), 2)
        self.assertEqual(joint_undercut(SHEEP, ((5, 2), ZERO)), 0)
        self.assertIsNone(joint_undercut(BARE, ((9, 1), ZERO)))
        # A recipe that makes no more than it eats never undercuts.
        works = JointWorks(1, [JointRecipe(ONE, (ONE,), (ONE,)), JointRecipe(ONE, (TWO,), (ONE,))])
        self.assertIsNone(joint_undercut(works, ((10 ** 200, 1),)))

    def test_drawn(self):
        draw = Draw(223)
        let = 0
        for _ in range(150):
            works = draw.joint_works(zeros=6)
            prices = draw.row(works.goods, 0, 2, 4)
            told = joint_undercut(works, list(prices))
            cheaper = [number for number, recipe in enumerate(works)
                       if summed(plain_left(recipe), fracs(prices)) > frac(recipe.labour)]
            self.assertEqual(told, cheaper[0] if cheaper else None)
            self.assertEqual(told is None, is_let_row(works, fracs(prices)))
            let += told is None
        self.assertTrue(30 < let < 120, let)

    def test_faults(self):
        for thing in NO_SEQUENCES + ((), (ONE,), (ONE,) * 3):
            fault(self, BadPrices, {"what": "length"}, joint_undercut, SHEEP, thing)
        for thing in NO_RATIOS + ((-1, 2),):
            fault(self, BadPrices, {"what": "price"}, joint_undercut, SHEEP, (ONE, thing))
            fault(self, BadPrices, {"what": "price"}, joint_undercut, SHEEP, [thing, (9, 1)])


if __name__ == "__main__":
    unittest.main()
