import unittest

from leastlabour.errors import BadWish
from leastlabour.joint import JointRecipe, JointWorks, as_joint
from leastlabour.jointserve import (JointServed, NotServed, joint_least, joint_made, joint_served_fault,
                                    not_served_fault)
from leastlabour.making import can_be_made
from leastlabour.ratios import ONE, ZERO, plus
from leastlabour.serving import least_labour
from tests.drawing import HALF, NO_RATIOS, NO_SEQUENCES, Draw, fault, frac, fracs, is_plain, ratio_kinds, summed
from tests.plainjoint import (is_let_row, plain_can_serve, plain_corners, plain_joint_net, plain_left, worth_at)
from tests.sums import weights_of_wholes
from tests.test_joint import BARE, SHEEP

TWO = (2, 1)
# Good 2 has no recipe, and recipe 1 eats it; good 3 is eaten up by what makes it.
LACKING = JointWorks(4, [JointRecipe(ONE, (ZERO,) * 4, (ONE, ONE, ZERO, ZERO)),
                         JointRecipe(ONE, (ZERO, ZERO, ONE, ZERO), (ZERO, TWO, ZERO, ONE)),
                         JointRecipe(ONE, (ZERO, ZERO, ZERO, TWO), (ONE, ZERO, ZERO, TWO))])


def check_served(case, works, wish, told):
    """Shows a JointServed right by sums alone."""
    case.assertIs(told.__class__, JointServed)
    is_plain(case, told.amounts)
    is_plain(case, told.prices)
    case.assertEqual((len(told.amounts), len(told.prices)), (len(works), works.goods))
    ratio_kinds(case, told.amounts + told.prices + (told.labour,))
    case.assertTrue(all(amount[0] >= 0 for amount in told.amounts))
    case.assertTrue(all(left >= asked for left, asked in zip(plain_joint_net(works, told.amounts), fracs(wish))))
    case.assertEqual(summed(fracs(told.amounts), [frac(recipe.labour) for recipe in works]), frac(told.labour))
    case.assertTrue(is_let_row(works, fracs(told.prices)))
    case.assertEqual(summed(fracs(told.prices), fracs(wish)), frac(told.labour))
    case.assertIsNone(joint_served_fault(works, wish, told))


def check_not_served(case, works, wish, told):
    """Shows a NotServed right by sums alone."""
    case.assertIs(told.__class__, NotServed)
    weights_of_wholes(case, told.weights, works.goods)
    case.assertTrue(all(summed(plain_left(recipe), told.weights) <= 0 for recipe in works))
    case.assertTrue(summed(fracs(wish), told.weights) > 0)
    case.assertIsNone(not_served_fault(works, wish, told))


class TestJointLeast(unittest.TestCase):
    def check(self, works, wish):
        told = joint_least(works, wish)
        self.assertEqual(joint_least(works, list(wish)), told)
        if plain_can_serve(works, wish):
            check_served(self, works, wish, told)
            self.assertEqual(frac(told.labour), worth_at(plain_corners(works), fracs(wish)))
        else:
            check_not_served(self, works, wish, told)
        return told

    def test_example(self):
        self.assertEqual(self.check(SHEEP, (ONE, ONE)).labour, (5, 2))
        self.assertEqual(self.check(SHEEP, (ZERO, ONE)).labour, ONE)
        self.assertEqual(joint_made(SHEEP), (0, 1))
        self.assertEqual(joint_made(LACKING), (0, 1))
        self.check(LACKING, (ONE, HALF, ZERO, ZERO))
        self.check(LACKING, (ONE, HALF, ONE, ZERO))
        self.check(LACKING, (ZERO, ZERO, ZERO, ONE))
        self.check(LACKING, (ZERO, ZERO, (1, 10 ** 100), (10 ** 100, 1)))

    def test_wish_of_zeros_and_no_recipes(self):
        for works in (SHEEP, BARE, LACKING):
            told = self.check(works, (ZERO,) * works.goods)
            self.assertEqual((told.labour, told.amounts), (ZERO, (ZERO,) * len(works)))
        self.assertEqual(joint_made(BARE), ())
        self.assertEqual(self.check(BARE, (ZERO, HALF)).weights[1], 1)
        self.check(BARE, (HALF, TWO))

    def test_drawn_works(self):
        draw = Draw(231)
        kinds = {}
        for _ in range(250):
            works = draw.joint_works(most=5, zeros=draw.pick((5, 7, 8)))
            told = self.check(works, draw.row(works.goods, 0, 3, draw.pick((3, 6))))
            kinds[told.__class__] = kinds.get(told.__class__, 0) + 1
        self.assertTrue(min(kinds.values()) > 60, kinds)

    def test_joint_made(self):
        draw = Draw(232)
        for _ in range(100):
            works = draw.joint_works(most=5, zeros=draw.pick((4, 6, 8)))
            made = joint_made(works)
            self.assertIsInstance(made, tuple)
            pieces = [tuple(ONE if good == other else ZERO for other in range(works.goods))
                      for good in range(works.goods)]
            self.assertEqual(made, tuple(good for good in range(works.goods) if plain_can_serve(works, pieces[good])))
            wish = draw.row(works.goods, 0, 3, 5)
            asked = {good for good, many in enumerate(wish) if many != ZERO}
            self.assertEqual(joint_least(works, wish).__class__ is JointServed, asked <= set(made))

    def test_plain_works(self):
        draw = Draw(233)
        for _ in range(60):
            works = draw.works(most=8)
            self.assertEqual(joint_made(as_joint(works)), can_be_made(works))
            wish = tuple(draw.ratio(0, 3) if good in can_be_made(works) else ZERO for good in range(works.goods))
            self.assertEqual(joint_least(as_joint(works), wish).labour, least_labour(works, wish))

    def test_five_goods_and_eight_recipes(self):
        draw = Draw(234)
        for _ in range(20):
            works = JointWorks(5, [draw.joint_recipe(5, 8) for _ in range(8)])
            wish = draw.row(5, 0, 3, 3)
            told = joint_least(works, wish)
            (check_served if told.__class__ is JointServed else check_not_served)(self, works, wish, told)

    def test_many_figures(self):
        long = 10 ** 200
        works = JointWorks(1, [JointRecipe((1, long), ((long - 1, long),), (ONE,))])
        self.assertEqual(self.check(works, ((long, 7),)).labour, (long, 7))

    def test_faults(self):
        for thing in NO_SEQUENCES + ((), (ONE,), (ONE,) * 3, (ONE, (-1, 2))):
            fault(self, BadWish, {}, joint_least, SHEEP, thing)
            fault(self, BadWish, {}, joint_served_fault, SHEEP, thing, None)
            fault(self, BadWish, {}, not_served_fault, SHEEP, thing, None)
        for thing in NO_RATIOS:
            fault(self, BadWish, {}, joint_least, SHEEP, (thing, ONE))

    def test_passed_lists_stay(self):
        wish = [ONE, ONE]
        told = joint_least(SHEEP, wish)
        joint_served_fault(SHEEP, wish, told)
        self.assertEqual(wish, [ONE, ONE])


class TestServedJudge(unittest.TestCase):
    def test_words(self):
        wish, right = (ONE, ONE), joint_least(SHEEP, (ONE, ONE))
        word = lambda *things: joint_served_fault(SHEEP, wish, JointServed(*things))  # noqa: E731
        for thing in NO_SEQUENCES + ((), (ONE, ONE), (ONE,) * 4, (ONE, ONE, (-1, 2)), list(right.amounts)):
            self.assertEqual(word(None, thing, None), "amounts")
        for thing in NO_RATIOS:
            self.assertEqual(word(None, (ONE, thing, (9, 1)), None), "amounts")
        for amounts in ((ZERO,) * 3, (ONE, ZERO, ZERO), (ZERO, TWO, (1, 3))):
            self.assertEqual(word(None, amounts, None), "short")
        for thing in NO_RATIOS + (ZERO, (3, 1), (-11, 4)):
            self.assertEqual(word(thing, right.amounts, None), "labour")
        for thing in NO_SEQUENCES + ((), (ONE,), (ONE,) * 3, (ONE, (-1, 2)), list(right.prices), (None, ONE)):
            self.assertEqual(word(right.labour, right.amounts, thing), "prices")
        for prices in ((TWO, ZERO), (ZERO, ONE), ((9, 1), (9, 1))):
            expected = "undercut" if not is_let_row(SHEEP, fracs(prices)) else "worth"
            self.assertEqual(word(right.labour, right.amounts, prices), expected)
        self.assertEqual(word(right.labour, right.amounts, ((9, 1), (9, 1))), "undercut")
        self.assertEqual(word(right.labour, right.amounts, (ZERO, ZERO)), "worth")
        self.assertEqual(word((4, 1), (TWO, ZERO, ZERO), right.prices), "worth")
        self.assertIsNone(word(right.labour, right.amounts, right.prices))

    def test_a_wish_that_cannot_be_served_is_short(self):
        told = JointServed((3, 1), (ONE,) * 3, (ZERO,) * 4)
        self.assertEqual(joint_served_fault(LACKING, (ZERO, ZERO, ONE, ZERO), told), "short")

    def test_drawn_spoilt_answers(self):
        draw = Draw(235)
        seen = {}
        for _ in range(300):
            works = draw.joint_works(most=5, zeros=8)
            wish = draw.row(works.goods, 0, 3, 5)
            right = joint_least(works, wish)
            if right.__class__ is NotServed or not len(works):
                continue
            things = [right.labour, list(right.amounts), list(right.prices)]
            for _ in range(draw.whole(1, 2)):
                place = draw.whole(0, 2)
                if place:
                    at = draw.whole(0, len(things[place]) - 1)
                    things[place][at] = plus(things[place][at], draw.ratio(-1, 1, 5))
                else:
                    things[0] = plus(things[0], draw.ratio(-1, 1, 5))
            told = joint_served_fault(works, wish, JointServed(things[0], tuple(things[1]), tuple(things[2])))
            seen[told] = seen.get(told, 0) + 1
            self.assertEqual(told, self.word(works, wish, *things))
        self.assertEqual(set(seen), {None, "amounts", "short", "labour", "prices", "undercut", "worth"}, seen)

    def word(self, works, wish, labour, amounts, prices):
        if any(amount[0] < 0 for amount in amounts):
            return "amounts"
        if any(left < asked for left, asked in zip(plain_joint_net(works, amounts), fracs(wish))):
            return "short"
        if frac(labour) != summed(fracs(amounts), [frac(recipe.labour) for recipe in works]):
            return "labour"
        if any(price[0] < 0 for price in prices):
            return "prices"
        if not is_let_row(works, fracs(prices)):
            return "undercut"
        return None if summed(fracs(prices), fracs(wish)) == frac(labour) else "worth"


class TestNotServedJudge(unittest.TestCase):
    def test_words(self):
        wish = (ONE, ZERO, ONE, ZERO)
        word = lambda weights, asked=wish: not_served_fault(LACKING, asked, NotServed(weights))  # noqa: E731
        for thing in NO_SEQUENCES + ((), (0, 0, 1), (0, 0, 1, 0, 0), [0, 0, 1, 0], (0, 0, -1, 0), (0, 0, ONE, 0),
                                     (0, 0, True, 0), (0, 0, 1.0, 0), (0, 0, None, 0)):
            self.assertEqual(word(thing), "weights")
        for thing in ((0, 0, 0, 0), (0, 0, 2, 0), (3, 0, 6, 0), (0, 4, 0, 4)):
            self.assertEqual(word(thing), "divisor")
        for thing in ((1, 0, 0, 0), (0, 1, 1, 0), (1, 1, 1, 1), (0, 0, 0, 1)):
            self.assertEqual(word(thing), "recipe")
        self.assertIsNone(word((0, 0, 1, 0)))
        self.assertIsNone(word((0, 0, 1, 1)))
        self.assertIsNone(word((0, 0, 5, 3)))
        self.assertEqual(word((0, 0, 1, 0), (ONE, ONE, ZERO, ONE)), "wish")
        self.assertEqual(word((0, 0, 1, 0), (ZERO,) * 4), "wish")
        self.assertEqual(word((0, 0, 2, 0), (ZERO,) * 4), "divisor")
        self.assertEqual(word((0, 1, 0, 0), (ONE, ZERO, ZERO, ZERO)), "recipe")
        self.assertIsNone(not_served_fault(BARE, (ZERO, ONE), NotServed((0, 1))))
        self.assertEqual(not_served_fault(BARE, (ZERO, ONE), NotServed((1, 0))), "wish")

    def test_no_weights_for_a_wish_that_can_be_served(self):
        draw = Draw(236)
        for _ in range(200):
            works = draw.joint_works(most=4, zeros=5)
            wish = draw.row(works.goods, 0, 2, 6)
            weights = tuple(draw.whole(0, 2) for _ in range(works.goods))
            if not_served_fault(works, wish, NotServed(weights)) is None:
                self.assertFalse(plain_can_serve(works, wish))


if __name__ == "__main__":
    unittest.main()
