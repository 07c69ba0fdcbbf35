import unittest

from leastlabour.errors import BadLot
from leastlabour.gifts import barring_lot, frees, least_gifts
from leastlabour.works import Works
from tests.drawing import Draw, fault, is_plain, lots_of
from tests.plain import plain_made, plain_self_eating_lots
from tests.test_making import EXAMPLE, NO_LOTS
from tests.test_selfeating import RING


class TestGifts(unittest.TestCase):
    def test_example(self):
        self.assertIs(frees(EXAMPLE, (), (0, 1)), True)
        self.assertIs(frees(EXAMPLE, (), (0, 2)), False)
        self.assertIs(frees(EXAMPLE, [2], [0, 1, 2]), True)
        self.assertIs(frees(EXAMPLE, (), ()), True)
        self.assertEqual(barring_lot(EXAMPLE, (), (2,)), (2,))
        self.assertIsNone(barring_lot(EXAMPLE, (), (1,)))
        self.assertEqual(least_gifts(EXAMPLE, (2,)), ((2,),))
        self.assertEqual(least_gifts(EXAMPLE, (0, 1)), ((),))
        self.assertEqual(least_gifts(EXAMPLE, ()), ((),))

    def test_rings_and_no_recipes(self):
        self.assertEqual(least_gifts(RING, (0,)), ((0,), (1,)))
        self.assertEqual(least_gifts(RING, [0, 1, 2]), ((0,), (1,)))
        self.assertEqual(least_gifts(Works(3, ()), (0, 2)), ((0, 2),))
        self.assertEqual(barring_lot(Works(3, ()), [1], [0, 1]), (0, 2))
        self.assertIs(frees(RING, (0,), (1,)), True)

    def test_faults(self):
        for call in (frees, barring_lot):
            for thing in NO_LOTS:
                fault(self, BadLot, {}, call, EXAMPLE, thing, ())
                fault(self, BadLot, {}, call, EXAMPLE, (), thing)
        for thing in NO_LOTS:
            fault(self, BadLot, {}, least_gifts, EXAMPLE, thing)

    def test_drawn_works(self):
        draw = Draw(46)
        many = 0
        for _ in range(120):
            works = draw.works(goods=draw.whole(2, 5), most=9, zeros=draw.pick((5, 7)), high=3)
            eating = plain_self_eating_lots(works)
            lot = draw.lot(works.goods)
            freeing = []
            for gifts in lots_of(works.goods):
                made = plain_made(works, gifts)
                free = all(good in gifts or good in made for good in lot)
                self.assertIs(frees(works, list(gifts), list(lot)), free)
                # They free the lot exactly if each self-eating lot with a good of it holds a gift.
                touching = [eaten for eaten in eating if set(eaten) & set(lot)]
                self.assertEqual(free, all(set(eaten) & set(gifts) for eaten in touching))
                left = [eaten for eaten in eating if not set(eaten) & set(gifts)]
                told = barring_lot(works, gifts, lot)
                self.assertEqual(told, None if free else max(left, key=len))
                if free:
                    freeing.append(gifts)
            least = tuple(one for one in freeing if not any(set(other) < set(one) for other in freeing))
            self.assertEqual(least_gifts(works, lot), least)
            is_plain(self, least_gifts(works, lot))
            many += len(least) > 1
        self.assertTrue(many > 8, many)

    def test_passed_lists_stay(self):
        gifts, lot = [2], [0, 2]
        frees(EXAMPLE, gifts, lot), barring_lot(EXAMPLE, gifts, lot), least_gifts(EXAMPLE, lot)
        self.assertEqual((gifts, lot), ([2], [0, 2]))


if __name__ == "__main__":
    unittest.main()
