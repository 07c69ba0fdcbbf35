import unittest

from leastlabour.errors import BadAmounts, BadLot, BadManner, BadOrder, BadWish, NoGood
from leastlabour.ratios import ONE, ZERO
from leastlabour.wishes import (check_amounts, check_good, check_lot, check_manner, check_order, check_wish, labour_of,
                                net_of, piece_of, pieces_of, serves)
from leastlabour.works import Recipe, Works
from tests.drawing import HALF, NO_RATIOS, NO_SEQUENCES, NO_WHOLES, Draw, back, fault, frac, lots_of

WORKS = Works(3, (Recipe(0, ONE, (HALF, ZERO, ZERO)), Recipe(0, ONE, (ZERO, ZERO, ONE)),
                  Recipe(1, ONE, (ONE, ZERO, ZERO))))


class OtherRecipe:
    """A recipe of another class of works: what the checks read of it is enough."""

    def __init__(self, labour=None, good=None, eats=None):
        self.labour, self.good, self.eats = labour, good, eats


class OtherWorks:
    def __init__(self, goods, recipes):
        self.goods, self.recipes = goods, tuple(recipes)

    def __len__(self):
        return len(self.recipes)

    def __iter__(self):
        return iter(self.recipes)


class TestChecks(unittest.TestCase):
    def test_good(self):
        self.assertEqual([check_good(3, good) for good in range(3)], [0, 1, 2])
        for thing in NO_WHOLES + (3, -1):
            fault(self, NoGood, {"good": thing}, check_good, 3, thing)

    def test_wish(self):
        self.assertEqual(check_wish(2, [HALF, ZERO]), (HALF, ZERO))
        self.assertIsInstance(check_wish(2, [HALF, ZERO]), tuple)
        for thing in NO_SEQUENCES + ((), (ONE,), (ONE, ONE, ONE), (ONE, (-1, 2))):
            fault(self, BadWish, {}, check_wish, 2, thing)
        for thing in NO_RATIOS:
            fault(self, BadWish, {}, check_wish, 2, (ONE, thing))

    def test_amounts(self):
        self.assertEqual(check_amounts(WORKS, [HALF, ZERO, ONE]), (HALF, ZERO, ONE))
        self.assertEqual(check_amounts(Works(2, ()), []), ())
        for thing in NO_SEQUENCES + ((), (ONE,) * 2, (ONE,) * 4, (ONE, ONE, (-1, 2))):
            fault(self, BadAmounts, {}, check_amounts, WORKS, thing)
        for thing in NO_RATIOS:
            fault(self, BadAmounts, {}, check_amounts, WORKS, (ONE, ONE, thing))

    def test_lot(self):
        for lot in lots_of(4):
            self.assertEqual(check_lot(4, list(lot)), lot)
            self.assertIsInstance(check_lot(4, list(lot)), tuple)
        for thing in NO_SEQUENCES + ((4,), (-1,), (1, 0), (0, 0), (1, True), (True,), (False, 1), ("0",), (None,), [ONE]):
            fault(self, BadLot, {}, check_lot, 4, thing)

    def test_order(self):
        self.assertEqual(check_order(3, [2, 0, 1]), (2, 0, 1))
        for thing in NO_SEQUENCES + ((), (0, 1), (0, 1, 1), (0, 1, 3), (0, True, 2), (False, 1, 2), ("0", 1, 2)):
            fault(self, BadOrder, {}, check_order, 3, thing)

    def test_manner(self):
        for manner in ((None,) * 3, (0, None, None), (0, 2, None)):
            self.assertEqual(check_manner(WORKS, list(manner)), manner)
            self.assertIsInstance(check_manner(WORKS, list(manner)), tuple)
        for thing in NO_SEQUENCES + ((), (None,) * 2, (None,) * 4, (2, None, None), (3, None, None), (-1, None, None),
                                     (False, None, None), (0, True, None), ("0", None, None), (ONE, None, None)):
            fault(self, BadManner, {}, check_manner, WORKS, thing)
        # Not closed: a recipe eats a good at which the manner has none.
        for thing in ((1, None, None), (None, 2, None), (1, 2, None)):
            fault(self, BadManner, {}, check_manner, WORKS, thing)


class TestAmounts(unittest.TestCase):
    def test_net_serves_and_labour(self):
        amounts = [(4, 1), ONE, HALF]
        self.assertEqual(net_of(WORKS, amounts), ((5, 2), HALF, (-1, 1)))
        self.assertIs(serves(WORKS, amounts, ((5, 2), ZERO, ZERO)), False)
        self.assertIs(serves(WORKS, (ONE, ZERO, ZERO), (HALF, ZERO, ZERO)), True)
        self.assertIs(serves(WORKS, (ONE, ZERO, ZERO), [(2, 3), ZERO, ZERO]), False)
        self.assertEqual(labour_of(WORKS, amounts), (11, 2))
        self.assertEqual(net_of(Works(2, ()), ()), (ZERO, ZERO))
        self.assertEqual(labour_of(Works(2, ()), ()), ZERO)

    def test_against_fractions(self):
        draw = Draw(6)
        for _ in range(80):
            works = draw.works()
            amounts = draw.row(len(works), 0, 4, 3)
            net = [sum((frac(a) * ((r.good == g) - frac(r.eats[g])) for a, r in zip(amounts, works)), frac(ZERO))
                   for g in range(works.goods)]
            self.assertEqual(net_of(works, list(amounts)), tuple(back(one) for one in net))
            labour = sum((frac(a) * frac(r.labour) for a, r in zip(amounts, works)), frac(ZERO))
            self.assertEqual(labour_of(works, amounts), back(labour))
            wish = draw.row(works.goods, 0, 1, 6)
            served = all(one >= frac(asked) for one, asked in zip(net, wish))
            self.assertIs(serves(works, amounts, wish), served)

    def test_objects_of_other_classes_of_works(self):
        joint = OtherWorks(2, [OtherRecipe(labour=HALF), OtherRecipe(labour=ONE)])
        self.assertEqual(check_amounts(joint, [ONE, HALF]), (ONE, HALF))
        self.assertEqual(labour_of(joint, [ONE, HALF]), ONE)
        two = OtherWorks(2, [OtherRecipe(good=1, eats=(HALF, ZERO))])
        self.assertEqual(net_of(two, [ONE]), ((-1, 2), ONE))
        self.assertIs(serves(two, [ONE], (ZERO, ZERO)), False)
        fault(self, BadAmounts, {}, check_amounts, two, [ONE, ONE])


class TestPieces(unittest.TestCase):
    def test_piece_of(self):
        self.assertEqual(piece_of(3, 1), (ZERO, ONE, ZERO))
        self.assertEqual(piece_of(1, 0), (ONE,))
        for thing in NO_WHOLES + (3, -1):
            fault(self, NoGood, {"good": thing}, piece_of, 3, thing)

    def test_pieces_of(self):
        self.assertEqual(pieces_of(3, [0, 2]), (ONE, ZERO, ONE))
        self.assertEqual(pieces_of(2, ()), (ZERO, ZERO))
        for thing in NO_SEQUENCES + ((3,), (1, 0), (1, 1), (True,)):
            fault(self, BadLot, {}, pieces_of, 3, thing)

    def test_passed_lists_stay(self):
        lot, wish, amounts = [0, 2], [ONE, ZERO], [ONE, ZERO, ZERO]
        pieces_of(3, lot), check_lot(3, lot), check_wish(2, wish), check_amounts(WORKS, amounts)
        net_of(WORKS, amounts), labour_of(WORKS, amounts)
        self.assertEqual((lot, wish, amounts), ([0, 2], [ONE, ZERO], [ONE, ZERO, ZERO]))


if __name__ == "__main__":
    unittest.main()
