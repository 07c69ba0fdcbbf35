import inspect
import unittest

from leastlabour.errors import BadManner, BadWish, CannotMake, NotMade
from leastlabour.making import making_recipes
from leastlabour.ownrows import MannerRow, check_whole, makes_all, manner_amounts, manners_of
from leastlabour.ratios import ONE, ZERO
from leastlabour.selfeating import SelfEating, self_eating_fault
from leastlabour.works import Recipe, Works
from tests.drawing import HALF, NO_RATIOS, NO_SEQUENCES, Draw, fault, frac, fracs, is_plain, ratio_kinds, summed
from tests.plain import plain_manners, plain_net, plain_row, plain_whole
from tests.test_making import EXAMPLE
from tests.test_selfeating import RING

TWO, THREE = (2, 1), (3, 1)
# Two good recipes, and two that eat one another up.
MIXED = Works(2, [Recipe(0, ONE, (ZERO, ZERO)), Recipe(1, ONE, (ZERO, HALF)), Recipe(0, ONE, (ZERO, TWO)),
                  Recipe(1, ONE, (ONE, ZERO))])


class TestManners(unittest.TestCase):
    def test_example(self):
        self.assertEqual(list(manners_of(EXAMPLE)), [(0, 2, None)])
        self.assertEqual(list(manners_of(Works(3, ()))), [(None, None, None)])
        self.assertEqual(list(manners_of(RING)), [(None, None, 2)])
        self.assertEqual(list(manners_of(MIXED)), [(0, 1), (0, 3), (2, 1), (2, 3)])
        self.assertTrue(inspect.isgeneratorfunction(manners_of))

    def test_drawn_works(self):
        draw = Draw(51)
        for _ in range(150):
            works = draw.works(most=9, zeros=draw.pick((6, 7)))
            told = list(manners_of(works))
            self.assertEqual(told, plain_whole(works))
            making = making_recipes(works)
            for manner in told:
                is_plain(self, manner)
                self.assertTrue(all(entry is None or entry in making for entry in manner))
                self.assertEqual(check_whole(works, list(manner)), manner)

    def test_check_whole(self):
        self.assertEqual(check_whole(EXAMPLE, [0, 2, None]), (0, 2, None))
        self.assertIsInstance(check_whole(EXAMPLE, [0, 2, None]), tuple)
        for thing in NO_SEQUENCES + ((None,) * 3, (0, None, None), (1, 2, None), (0, 2, 2), (0, 2), (0, True, None),
                                     (0, 2, None, None), (3, 2, None), (2, 2, None), ("0", 2, None)):
            fault(self, BadManner, {}, check_whole, EXAMPLE, thing)
        self.assertEqual(check_whole(Works(2, ()), (None, None)), (None, None))
        # A whole manner need not be able to make its goods.
        self.assertEqual(check_whole(MIXED, (2, 3)), (2, 3))


class TestMakesAll(unittest.TestCase):
    def check(self, works, manner):
        told = makes_all(works, manner)
        row = plain_row(works, manner)
        goods = [good for good in range(works.goods) if manner[good] is not None]
        if row is None:
            self.assertIs(told.__class__, SelfEating)
            using = sorted(manner[good] for good in goods)
            given = [good for good in range(works.goods) if good not in goods]
            self.assertIsNone(self_eating_fault(works, told, given=given, using=using))
        else:
            self.assertIs(told.__class__, MannerRow)
            self.assertIsInstance(told.prices, tuple)
            self.assertEqual(len(told.prices), works.goods)
            ratio_kinds(self, [told.prices[good] for good in goods])
            for good, price in enumerate(told.prices):
                self.assertEqual(None if price is None else frac(price), row.get(good))
                self.assertTrue(price is None or price[0] > 0)
        return told

    def test_example(self):
        self.assertEqual(self.check(EXAMPLE, (0, 2, None)), MannerRow((TWO, THREE, None)))
        self.assertEqual(self.check(EXAMPLE, (0, None, None)), MannerRow((TWO, None, None)))
        self.assertEqual(self.check(EXAMPLE, (None,) * 3), MannerRow((None,) * 3))
        self.assertEqual(makes_all(EXAMPLE, [0, 2, None]), MannerRow((TWO, THREE, None)))

    def test_solutions_below_zero_do_not_count(self):
        works = Works(1, [Recipe(0, ONE, [TWO])])
        self.assertEqual(self.check(works, (0,)), SelfEating((0,), (1,)))
        self.assertEqual(self.check(Works(1, [Recipe(0, ONE, [ONE])]), (0,)), SelfEating((0,), (1,)))
        self.check(MIXED, (2, 3))
        self.check(RING, (0, 1, 2))
        self.check(RING, (0, 1, None))

    def test_drawn_works(self):
        draw = Draw(52)
        kinds = [0, 0]
        for _ in range(120):
            works = draw.works(most=6, zeros=draw.pick((5, 7)), high=2)
            for manner in plain_manners(works):
                kinds[self.check(works, manner).__class__ is MannerRow] += 1
        self.assertTrue(min(kinds) > 100, kinds)

    def test_faults(self):
        for thing in NO_SEQUENCES + ((1, 2, None), (None, 2, None), (0, 2), (True, None, None), (3, None, None)):
            fault(self, BadManner, {}, makes_all, EXAMPLE, thing)
            fault(self, BadManner, {}, manner_amounts, EXAMPLE, thing, None)


class TestMannerAmounts(unittest.TestCase):
    def check(self, works, manner, wish):
        amounts = manner_amounts(works, manner, wish)
        self.assertIsInstance(amounts, tuple)
        self.assertEqual(len(amounts), len(works))
        ratio_kinds(self, amounts)
        self.assertEqual(plain_net(works, amounts), fracs(wish))
        self.assertTrue(all(amount[0] >= 0 for amount in amounts))
        self.assertTrue(all(amount == ZERO or number in manner for number, amount in enumerate(amounts)))
        labour = summed(fracs(amounts), [frac(recipe.labour) for recipe in works])
        prices = [ZERO if price is None else price for price in makes_all(works, manner).prices]
        self.assertEqual(labour, summed(fracs(prices), fracs(wish)))
        return amounts

    def test_example(self):
        self.assertEqual(self.check(EXAMPLE, (0, 2, None), (ONE, ONE, ZERO)), ((4, 1), ZERO, ONE))
        self.assertEqual(manner_amounts(EXAMPLE, [0, 2, None], [ZERO, ONE, ZERO]), (TWO, ZERO, ONE))
        self.assertEqual(self.check(EXAMPLE, (None,) * 3, (ZERO,) * 3), (ZERO,) * 3)
        self.assertEqual(self.check(EXAMPLE, (0, 2, None), (ZERO,) * 3), (ZERO,) * 3)
        self.assertEqual(self.check(Works(2, ()), (None, None), (ZERO, ZERO)), ())

    def test_drawn_works(self):
        draw = Draw(53)
        for _ in range(80):
            works = draw.works(most=6, zeros=7)
            for manner in plain_manners(works):
                row = plain_row(works, manner)
                wish = draw.row(works.goods, 0, 3, 4)
                lacking = [good for good in range(works.goods) if manner[good] is None and wish[good] != ZERO]
                if row is None:
                    fault(self, CannotMake, {}, manner_amounts, works, manner, wish)
                elif lacking:
                    fault(self, NotMade, {"good": lacking[0]}, manner_amounts, works, manner, wish)
                    self.check(works, manner, tuple(ZERO if manner[g] is None else wish[g] for g in range(works.goods)))
                else:
                    self.check(works, manner, wish)

    def test_faults(self):
        for thing in NO_SEQUENCES + ((), (ONE,), (ONE,) * 3, (ONE, (-1, 2))):
            fault(self, BadWish, {}, manner_amounts, MIXED, (2, 3), thing)
        for thing in NO_RATIOS:
            fault(self, BadWish, {}, manner_amounts, MIXED, (2, 3), (ONE, thing))
        fault(self, CannotMake, {}, manner_amounts, MIXED, (2, 3), (ZERO, ZERO))
        fault(self, CannotMake, {}, manner_amounts, RING, (0, 1, None), (ZERO, ZERO, ONE))
        fault(self, NotMade, {"good": 1}, manner_amounts, EXAMPLE, (0, None, None), (ONE, ONE, ONE))

    def test_passed_lists_stay(self):
        manner, wish = [0, 2, None], [ONE, ONE, ZERO]
        manner_amounts(EXAMPLE, manner, wish), makes_all(EXAMPLE, manner), check_whole(EXAMPLE, manner)
        self.assertEqual((manner, wish), ([0, 2, None], [ONE, ONE, ZERO]))

    def test_result(self):
        things = [1]
        self.assertIs(MannerRow(things).prices, things)
        self.assertTrue(MannerRow((1,)) == MannerRow((1,)))
        self.assertFalse(MannerRow((1,)) == MannerRow((2,)))
        self.assertFalse(MannerRow((1,)) == (1,))


if __name__ == "__main__":
    unittest.main()
