import unittest

from leastlabour.errors import BadLot, BadNumbers, NotMade
from leastlabour.making import can_be_made, made_amounts, made_fault, making_recipes
from leastlabour.ratios import ONE, ZERO
from leastlabour.works import Recipe, Works
from tests.drawing import HALF, NO_RATIOS, NO_SEQUENCES, Draw, fault, frac, is_plain, ratio_kinds
from tests.plain import eaten_goods, plain_made, plain_net
from tests.sums import can_be_met

TWO = (2, 1)
EXAMPLE = Works(3, (Recipe(0, ONE, (HALF, ZERO, ZERO)), Recipe(0, ONE, (ZERO, ZERO, ONE)),
                    Recipe(1, ONE, (ONE, ZERO, ZERO))))
NO_LOTS = NO_SEQUENCES + ((3,), (-1,), (1, 0), (0, 0), (True,), ("0",), (None,), (ONE,))
NO_NUMBERS = tuple(thing for thing in NO_SEQUENCES if thing is not None) + (
    (3,), (-1,), (1, 0), (1, 1), (True,), (False, 1), ("0",), (None,), (ONE,))


def drawn_using(draw, works):
    """None, or some of the recipes' numbers."""
    if draw.chance(1, 3):
        return None
    return [number for number in range(len(works)) if draw.chance(2, 3)]


def allowed(works, given, using):
    """The numbers of the recipes that may be used."""
    return [number for number, recipe in enumerate(works)
            if recipe.good not in given and (using is None or number in using)]


class TestCanBeMade(unittest.TestCase):
    def test_example(self):
        self.assertEqual(can_be_made(EXAMPLE), (0, 1))
        self.assertEqual(can_be_made(EXAMPLE, given=(2,)), (0, 1))
        self.assertEqual(can_be_made(EXAMPLE, given=[2], using=[1, 2]), (0, 1))
        self.assertEqual(can_be_made(EXAMPLE, using=(1, 2)), ())
        self.assertEqual(can_be_made(EXAMPLE, given=(0,), using=(2,)), (1,))
        self.assertEqual(can_be_made(EXAMPLE, given=(0, 1, 2)), ())
        self.assertEqual(can_be_made(EXAMPLE, using=()), ())

    def test_edges(self):
        self.assertEqual(can_be_made(Works(4, ())), ())
        self.assertEqual(can_be_made(Works(1, [Recipe(0, ONE, [ZERO])])), (0,))
        self.assertEqual(can_be_made(Works(1, [Recipe(0, ONE, [(99, 100)])])), (0,))
        self.assertEqual(can_be_made(Works(1, [Recipe(0, ONE, [ONE])])), ())
        self.assertEqual(can_be_made(Works(1, [Recipe(0, ONE, [TWO])])), ())
        long = 10 ** 299
        self.assertEqual(can_be_made(Works(1, [Recipe(0, ONE, [(long - 1, long)])])), (0,))
        self.assertEqual(can_be_made(Works(1, [Recipe(0, ONE, [(long + 1, long)])])), ())

    def test_rings(self):
        for first, second, made in ((HALF, ONE, (0, 1)), (HALF, TWO, ()), (HALF, (3, 2), (0, 1)), (ONE, ONE, ())):
            works = Works(2, [Recipe(0, ONE, (ZERO, first)), Recipe(1, ONE, (second, ZERO))])
            self.assertEqual(can_be_made(works), made)

    def test_drawn_works(self):
        draw = Draw(31)
        some = 0
        for _ in range(250):
            works = draw.works(most=8, zeros=draw.pick((5, 6, 7)), high=2)
            given = draw.lot(works.goods) if draw.chance(1, 2) else ()
            using = drawn_using(draw, works)
            told = can_be_made(works, given=list(given), using=using)
            self.assertEqual(told, plain_made(works, given, using))
            is_plain(self, told)
            some += 0 < len(told) < works.goods - len(given)
        self.assertTrue(some > 40, some)

    def test_faults(self):
        for call, more in ((can_be_made, ()), (made_amounts, ((),)), (made_fault, ((), None))):
            for thing in NO_LOTS:
                fault(self, BadLot, {}, call, EXAMPLE, *more, given=thing, using=5)
            for thing in NO_NUMBERS:
                fault(self, BadNumbers, {}, call, EXAMPLE, *more, given=(), using=thing)


class TestAmounts(unittest.TestCase):
    def check(self, works, lot, given, using):
        amounts = made_amounts(works, lot, given=given, using=using)
        self.assertIsInstance(amounts, tuple)
        self.assertEqual(len(amounts), len(works))
        ratio_kinds(self, amounts)
        self.assertTrue(all(amount[0] >= 0 for amount in amounts))
        for number, amount in enumerate(amounts):
            self.assertTrue(amount == ZERO or number in allowed(works, given, using))
        for good, left in enumerate(plain_net(works, amounts)):
            self.assertTrue(good in given or left >= int(good in lot))
        self.assertIsNone(made_fault(works, lot, amounts, given=given, using=using))
        self.assertIsNone(made_fault(works, list(lot), list(amounts), given=list(given), using=using))

    def test_example(self):
        self.check(EXAMPLE, (0, 1), (), None)
        self.check(EXAMPLE, (), (), None)
        self.assertEqual(made_amounts(EXAMPLE, (), using=()), (ZERO,) * 3)
        self.assertEqual(made_amounts(Works(2, ()), []), ())
        self.check(EXAMPLE, (0, 1), (2,), (1, 2))
        fault(self, NotMade, {"good": 2}, made_amounts, EXAMPLE, (0, 2))
        fault(self, NotMade, {"good": 0}, made_amounts, EXAMPLE, (0, 1, 2), using=(1, 2))
        fault(self, NotMade, {"good": 1}, made_amounts, EXAMPLE, (0, 1, 2), given=(1,))

    def test_drawn_works(self):
        draw = Draw(32)
        for _ in range(150):
            works = draw.works(most=8, zeros=draw.pick((5, 6, 7)))
            given = draw.lot(works.goods) if draw.chance(1, 2) else ()
            using = drawn_using(draw, works)
            lot = draw.lot(works.goods)
            lacking = [good for good in lot if good not in plain_made(works, given, using)]
            if lacking:
                fault(self, NotMade, {"good": lacking[0]}, made_amounts, works, lot, given=given, using=using)
            else:
                self.check(works, lot, given, using)

    def test_faults_in_their_order(self):
        for thing in NO_LOTS:
            fault(self, BadLot, {}, made_amounts, EXAMPLE, thing, given=(), using=5)
            fault(self, BadLot, {}, made_fault, EXAMPLE, thing, None, given=(), using=5)
        fault(self, BadNumbers, {}, made_amounts, EXAMPLE, (2,), using=5)

    def test_judge(self):
        judged = [(ONE, ZERO, ZERO), "short"], [((2, 1), ZERO, ZERO), None], [(ZERO, ONE, ZERO), "short"]
        for amounts, word in judged:
            self.assertEqual(made_fault(EXAMPLE, (0,), amounts), word)
        self.assertEqual(made_fault(EXAMPLE, (), (ZERO, ONE, ZERO)), "short")
        self.assertIsNone(made_fault(EXAMPLE, (0,), (ZERO, ONE, ZERO), given=(2,)))
        for thing in NO_SEQUENCES + ((), (ONE,) * 2, (ONE,) * 4, (ONE, ONE, (-1, 2))):
            self.assertEqual(made_fault(EXAMPLE, (0,), thing, using=()), "amounts")
        for thing in NO_RATIOS:
            self.assertEqual(made_fault(EXAMPLE, (0,), (ONE, ONE, thing), using=()), "amounts")
        self.assertEqual(made_fault(EXAMPLE, (2,), (ONE, ZERO, ZERO), using=(1, 2)), "used")
        self.assertEqual(made_fault(EXAMPLE, (2,), (ONE, ZERO, ZERO), given=(0,)), "used")
        # A given good of the lot needs its piece, too, and no recipe of it may be used.
        self.assertEqual(made_fault(EXAMPLE, (2,), (ZERO, ZERO, ZERO), given=(2,)), "short")
        self.assertIsNone(made_fault(EXAMPLE, (1,), (ZERO, ZERO, ONE), given=(0,)))
        self.assertEqual(made_fault(EXAMPLE, (0,), (ZERO, ZERO, ONE), given=(0,)), "short")

    def test_spoilt_amounts(self):
        draw = Draw(33)
        for _ in range(100):
            works = draw.works(most=8)
            lot = can_be_made(works)
            amounts = list(made_amounts(works, lot))
            if lot:
                self.assertEqual(made_fault(works, lot, [ZERO] * len(works)), "short")
                left = min(plain_net(works, amounts)[good] for good in lot)
                size = frac(HALF) / left
                fewer = [((size * frac(one)).numerator, (size * frac(one)).denominator) for one in amounts]
                self.assertEqual(made_fault(works, lot, fewer), "short")
                using = [number for number, amount in enumerate(amounts) if amount == ZERO]
                self.assertEqual(made_fault(works, lot, amounts, using=using), "used")


class TestMakingRecipes(unittest.TestCase):
    def test_example(self):
        self.assertEqual(making_recipes(EXAMPLE), (0, 2))
        self.assertEqual(making_recipes(Works(2, ())), ())

    def test_drawn_works(self):
        draw = Draw(34)
        for _ in range(150):
            works = draw.works(most=9, zeros=7, high=2)
            made = plain_made(works)
            wanted = tuple(number for number, recipe in enumerate(works)
                           if recipe.good in made and set(eaten_goods(recipe)) <= set(made))
            self.assertEqual(making_recipes(works), wanted)

    def test_others_have_no_amount_where_nothing_is_short(self):
        # With one piece more of a recipe of a made good that eats an unmade one something is short, however it is met.
        draw = Draw(35)
        seen = 0
        for _ in range(100):
            works = draw.works(most=8, zeros=6, high=2)
            made = plain_made(works)
            for number, recipe in enumerate(works):
                if recipe.good in made and number not in making_recipes(works):
                    seen += 1
                    rows = [[int(r.good == g) - frac(r.eats[g]) for r in works] for g in range(works.goods)]
                    rows.append([int(other == number) for other in range(len(works))])
                    if len(works) <= 6:
                        self.assertFalse(can_be_met(rows, [0] * works.goods + [1]))
        self.assertTrue(seen > 5, seen)

    def test_passed_lists_stay(self):
        lot, given, using, amounts = [0], [2], [0, 1], [TWO, ZERO, ZERO]
        made_amounts(EXAMPLE, lot, given=given, using=using)
        made_fault(EXAMPLE, lot, amounts, given=given, using=using)
        self.assertEqual((lot, given, using, amounts), ([0], [2], [0, 1], [TWO, ZERO, ZERO]))


if __name__ == "__main__":
    unittest.main()
