import inspect
import unittest

from leastlabour.errors import BadLot, BadNumbers, BadWeights
from leastlabour.making import can_be_made
from leastlabour.ratios import ONE, ZERO
from leastlabour.selfeating import (SelfEating, first_loss, is_self_eating_lot, least_self_eating_lots, self_eating,
                                    self_eating_fault, self_eating_lots)
from leastlabour.works import Recipe, Works
from tests.drawing import HALF, NO_SEQUENCES, Draw, fault, is_plain, lots_of
from tests.plain import loses, plain_made, plain_self_eating, plain_self_eating_lots
from tests.sums import weights_of_wholes
from tests.test_making import EXAMPLE, NO_LOTS, NO_NUMBERS, allowed, drawn_using

TWO = (2, 1)
RING = Works(3, [Recipe(0, ONE, (ZERO, ONE, ZERO)), Recipe(1, ONE, (ONE, ZERO, ZERO)), Recipe(2, ONE, (ZERO,) * 3)])


class TestSelfEating(unittest.TestCase):
    def check(self, works, given=(), using=None):
        told = self_eating(works, given=given, using=using)
        made = plain_made(works, given, using)
        unmade = tuple(good for good in range(works.goods) if good not in made and good not in given)
        if not unmade:
            self.assertIsNone(told)
        else:
            self.assertIs(told.__class__, SelfEating)
            self.assertEqual(told.lot, unmade)
            is_plain(self, told.lot)
            weights_of_wholes(self, told.weights, works.goods)
            self.assertEqual(tuple(good for good, weight in enumerate(told.weights) if weight > 0), unmade)
            self.assertFalse(loses(works, told.weights, allowed(works, given, using)))
        self.assertIsNone(self_eating_fault(works, told, given=given, using=using))
        return told

    def test_example(self):
        self.assertEqual(self.check(EXAMPLE), SelfEating((2,), (0, 0, 1)))
        self.assertIsNone(self.check(EXAMPLE, (2,)))
        self.assertIsNone(self.check(EXAMPLE, [2], [0, 2]))
        self.check(EXAMPLE, (0,), (2,))
        self.check(EXAMPLE, (), ())
        self.check(EXAMPLE, (1,), ())
        self.assertIsNone(self.check(EXAMPLE, (0, 1, 2)))

    def test_edges(self):
        self.assertEqual(self.check(Works(3, ())), SelfEating((0, 1, 2), (1, 1, 1)))
        self.assertEqual(self.check(RING), SelfEating((0, 1), (1, 1, 0)))
        self.assertIsNone(self.check(Works(1, [Recipe(0, ONE, [HALF])])))
        self.assertEqual(self.check(Works(1, [Recipe(0, ONE, [ONE])])), SelfEating((0,), (1,)))
        long = 10 ** 150
        works = Works(2, [Recipe(0, ONE, (ZERO, (long, 1))), Recipe(1, ONE, ((1, long), ZERO))])
        self.assertEqual(self.check(works).weights, (long, 1))

    def test_drawn_works(self):
        draw = Draw(41)
        kinds = [0, 0]
        for _ in range(250):
            works = draw.works(most=8, zeros=draw.pick((4, 6, 7)), high=2)
            given = draw.lot(works.goods) if draw.chance(1, 2) else ()
            kinds[self.check(works, given, drawn_using(draw, works)) is None] += 1
        self.assertTrue(min(kinds) > 40, kinds)

    def test_a_good_can_be_made_exactly_if_no_self_eating_weights_are_above_0_at_it(self):
        draw = Draw(42)
        for _ in range(80):
            works = draw.works(goods=draw.whole(1, 4), most=6, zeros=5, high=2)
            eating = set()
            for lot in lots_of(works.goods):
                if plain_self_eating(works, lot):
                    eating |= set(lot)
            self.assertEqual(can_be_made(works), tuple(g for g in range(works.goods) if g not in eating))

    def test_faults(self):
        for thing in NO_LOTS:
            fault(self, BadLot, {}, self_eating, EXAMPLE, given=thing, using=5)
            fault(self, BadLot, {}, self_eating_fault, EXAMPLE, None, given=thing, using=5)
        for thing in NO_NUMBERS:
            fault(self, BadNumbers, {}, self_eating, EXAMPLE, given=(), using=thing)
            fault(self, BadNumbers, {}, self_eating_fault, EXAMPLE, None, given=(), using=thing)


class TestJudge(unittest.TestCase):
    def judged(self, lot, weights, works=EXAMPLE, **more):
        return self_eating_fault(works, SelfEating(lot, weights), **more)

    def test_none(self):
        self.assertEqual(self_eating_fault(EXAMPLE, None), "none")
        self.assertIsNone(self_eating_fault(EXAMPLE, None, given=(2,)))
        self.assertEqual(self_eating_fault(EXAMPLE, None, using=()), "none")

    def test_words(self):
        self.assertIsNone(self.judged((2,), (0, 0, 1)))
        self.assertIsNone(self.judged([2], [0, 0, 1]))
        for thing in NO_SEQUENCES + ((), (0, 0), (0, 0, 1, 0), (0, 0, 0), (0, 0, -1), (0, 0, True), (False, 0, 1),
                                     (0, 0, ONE), (0, 0, 1.0), (0, 0, None)):
            self.assertEqual(self.judged(None, thing), "weights")
        for weights in ((0, 0, 2), (2, 4, 0)):
            self.assertEqual(self.judged(None, weights, given=(0, 1, 2)), "divisor")
        for weights in ((0, 0, 1), (1, 0, 1)):
            self.assertEqual(self.judged(None, weights, given=(2,)), "given")
        for lot in NO_SEQUENCES + ((), (1,), (1, 2), (2, 2), (3,), "2", ("2",), (2.0,), (None,)):
            self.assertEqual(self.judged(lot, (0, 0, 1)), "lot")
        self.assertEqual(self.judged((False,), (1, 0, 0)), "lot")
        self.assertEqual(self.judged((True,), (0, 1, 0)), "lot")
        self.assertEqual(self.judged((2, 1), (0, 1, 1)), "lot")
        for lot, weights in (((0,), (1, 0, 0)), ((0, 1, 2), (1, 1, 1)), ((1, 2), (0, 1, 1))):
            self.assertEqual(self.judged(lot, weights), "recipe")

    def test_only_recipes_that_may_be_used_count(self):
        self.assertIsNone(self.judged((0, 1, 2), (1, 1, 1), using=(1, 2)))
        self.assertEqual(self.judged((0, 1, 2), (1, 2, 1), using=(1, 2)), "recipe")
        self.assertIsNone(self.judged((1, 2), (0, 1, 1), given=(0,), using=(0,)))

    def test_greatest(self):
        works = Works(2, [Recipe(0, ONE, (ONE, ZERO))])
        self.assertEqual(self.judged((0,), (1, 0), works), "greatest")
        self.assertEqual(self.judged((1,), (0, 1), works), "greatest")
        self.assertIsNone(self.judged((0, 1), (1, 3), works))
        self.assertIsNone(self.judged((0,), (1, 0), works, given=(1,)))

    def test_spoilt_weights(self):
        draw = Draw(43)
        for _ in range(150):
            works = draw.works(most=7, zeros=5, high=2)
            told = self_eating(works)
            if told is None:
                weights = [draw.whole(0, 2) for _ in range(works.goods)]
                lot = tuple(good for good, weight in enumerate(weights) if weight)
                self.assertIn(self.judged(lot, weights, works), ("weights", "divisor", "recipe"))
                continue
            doubled = [2 * weight for weight in told.weights]
            self.assertEqual(self.judged(told.lot, doubled, works), "divisor")
            self.assertEqual(self.judged(told.lot[1:], told.weights, works), "lot")
            self.assertEqual(self.judged(told.lot[1:], doubled, works), "divisor")
            others = [good for good in range(works.goods) if good not in told.lot]
            if others:
                more = list(told.weights)
                more[others[0]] = 10 ** 9 + 7
                self.assertEqual(self.judged(tuple(sorted(told.lot + (others[0],))), more, works), "recipe")


class TestFirstLoss(unittest.TestCase):
    def test_example(self):
        self.assertIsNone(first_loss(EXAMPLE, (0, 0, 1)))
        self.assertIsNone(first_loss(EXAMPLE, [0, 0, 0]))
        self.assertIsNone(first_loss(EXAMPLE, (0, 0, 6)))
        self.assertEqual(first_loss(EXAMPLE, (1, 0, 1)), 0)
        self.assertEqual(first_loss(EXAMPLE, (0, 1, 1)), 2)
        self.assertIsNone(first_loss(Works(2, ()), (1, 4)))
        for thing in NO_SEQUENCES + ((), (0, 0), (0, 0, 1, 0), (0, 0, -1), (0, 0, True), (0, 0, ONE), (0, 0, 1.0)):
            fault(self, BadWeights, {}, first_loss, EXAMPLE, thing)

    def test_drawn(self):
        draw = Draw(44)
        for _ in range(200):
            works = draw.works(most=6, zeros=3, high=3)
            weights = [draw.whole(0, 3) for _ in range(works.goods)]
            losing = [number for number in range(len(works)) if loses(works, weights, [number])]
            self.assertEqual(first_loss(works, weights), losing[0] if losing else None)


class TestLots(unittest.TestCase):
    def test_example(self):
        self.assertEqual(list(self_eating_lots(EXAMPLE)), [(2,)])
        self.assertEqual(least_self_eating_lots(EXAMPLE), ((2,),))
        self.assertEqual(list(self_eating_lots(RING)), [(0, 1)])
        self.assertEqual(list(self_eating_lots(Works(2, ()))), [(0,), (1,), (0, 1)])
        self.assertEqual(least_self_eating_lots(Works(2, ())), ((0,), (1,)))
        self.assertEqual(least_self_eating_lots(Works(1, [Recipe(0, ONE, [ZERO])])), ())
        self.assertTrue(inspect.isgeneratorfunction(self_eating_lots))

    def test_empty_lot_is_none(self):
        self.assertIs(is_self_eating_lot(EXAMPLE, ()), False)
        self.assertIs(is_self_eating_lot(EXAMPLE, [2]), True)
        self.assertIs(is_self_eating_lot(EXAMPLE, (1, 2)), False)
        for thing in NO_LOTS:
            fault(self, BadLot, {}, is_self_eating_lot, EXAMPLE, thing)

    def test_drawn_works(self):
        draw = Draw(45)
        many = 0
        for _ in range(80):
            works = draw.works(most=6, zeros=draw.pick((4, 6)), high=2)
            wanted = plain_self_eating_lots(works)
            told = list(self_eating_lots(works))
            self.assertEqual(told, wanted)
            is_plain(self, tuple(told))
            least = tuple(lot for lot in wanted if not any(set(other) < set(lot) for other in wanted))
            self.assertEqual(least_self_eating_lots(works), least)
            for lot in lots_of(works.goods):
                self.assertIs(is_self_eating_lot(works, list(lot)), lot in wanted)
                others = tuple(good for good in range(works.goods) if good not in lot)
                alone = not set(plain_made(works, others)) & set(lot)
                self.assertEqual(lot in wanted, alone and lot != ())
            for one in wanted:
                for other in wanted:
                    self.assertIn(tuple(sorted(set(one) | set(other))), wanted)
            many += len(wanted) > 2
        self.assertTrue(many > 10, many)

    def test_result(self):
        things = [0], [1]
        told = SelfEating(*things)
        self.assertTrue(told.lot is things[0] and told.weights is things[1])
        self.assertTrue(SelfEating((0,), (1,)) == SelfEating((0,), (1,)))
        self.assertFalse(SelfEating((0,), (1,)) == SelfEating((0,), (2,)))
        self.assertFalse(SelfEating((0,), (1,)) == SelfEating((1,), (1,)))
        self.assertFalse(SelfEating((0,), (1,)) == ((0,), (1,)))


if __name__ == "__main__":
    unittest.main()
