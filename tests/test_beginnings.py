import unittest

from leastlabour.beginnings import (Ceiling, begins, closure, grown_from, holding_weights, least_pinches, most_ever,
                                    steps_from, usable_recipes)
from leastlabour.errors import BadLot, BadStock, BadWish, NoGood
from leastlabour.growing import Plan, play_plan
from leastlabour.ratios import ONE, ZERO
from leastlabour.works import Recipe, Works
from tests.drawing import (HALF, NO_RATIOS, NO_SEQUENCES, NO_WHOLES, Draw, back, fault, frac, fracs, is_plain, lots_of,
                           ratio_kinds, summed)
from tests.plain import eaten_goods, loses, plain_closure, plain_made, plain_net
from tests.sums import weights_of_wholes
from tests.test_making import EXAMPLE, NO_LOTS
from tests.test_selfeating import RING

TWO = (2, 1)


def drawn_works(draw):
    return draw.works(most=8, zeros=draw.pick((4, 6, 7)), high=2)


def eating_works(draw):
    """Works each recipe of which eats a little of some goods: most goods can be made, but need something in hand."""
    goods = draw.whole(2, 5)
    recipes = []
    for _ in range(draw.whole(3, 9)):
        eats = [ZERO] * goods
        for _ in range(draw.whole(1, 2)):
            eats[draw.whole(0, goods - 1)] = (1, draw.whole(2, 5))
        recipes.append(Recipe(draw.whole(0, goods - 1), ONE, eats))
    return Works(goods, recipes)


def drawn_stock(draw, works):
    return draw.row(works.goods, 0, 4, 5)


def pinch_of(stock):
    return tuple(good for good, held in enumerate(stock) if held[0])


def usable(works, pinch):
    had = set(plain_closure(works, pinch))
    return tuple(number for number, recipe in enumerate(works) if set(eaten_goods(recipe)) <= had)


class TestClosure(unittest.TestCase):
    def test_example(self):
        self.assertEqual(closure(EXAMPLE, ()), ())
        self.assertEqual(closure(EXAMPLE, [0]), (0, 1))
        self.assertEqual(closure(EXAMPLE, (2,)), (0, 1, 2))
        self.assertEqual(steps_from(EXAMPLE, (2,)), ((0,), (1,)))
        self.assertEqual(steps_from(EXAMPLE, [0]), ((1,),))
        self.assertEqual(steps_from(EXAMPLE, (1,)), ())
        self.assertEqual(usable_recipes(EXAMPLE, (0,)), (0, 2))
        self.assertEqual(usable_recipes(EXAMPLE, (2,)), (0, 1, 2))
        self.assertEqual(usable_recipes(EXAMPLE, ()), ())

    def test_recipes_that_eat_nothing_need_no_pinch(self):
        works = Works(3, [Recipe(1, ONE, (ZERO,) * 3), Recipe(0, ONE, (ZERO, ONE, ZERO)), Recipe(2, ONE, (ONE, ONE, ZERO)),
                          Recipe(0, ONE, (ZERO,) * 3)])
        self.assertEqual(steps_from(works, ()), ((0, 1), (2,)))
        self.assertEqual(closure(works, ()), (0, 1, 2))
        self.assertEqual(least_pinches(works), ((),))
        self.assertEqual(closure(Works(2, ()), (1,)), (1,))
        self.assertEqual(steps_from(Works(2, ()), ()), ())

    def test_drawn_works(self):
        draw = Draw(61)
        for _ in range(150):
            works = drawn_works(draw)
            pinch = draw.lot(works.goods)
            lot = plain_closure(works, pinch)
            self.assertEqual(closure(works, list(pinch)), lot)
            self.assertEqual(usable_recipes(works, pinch), usable(works, pinch))
            steps = steps_from(works, pinch)
            is_plain(self, steps)
            had = set(pinch)
            for step in steps:
                made = {recipe.good for recipe in works if set(eaten_goods(recipe)) <= had}
                self.assertEqual(step, tuple(sorted(made - had)))
                self.assertTrue(step)
                had |= made
            self.assertEqual(had, set(lot))

    def test_faults(self):
        for call in (closure, steps_from, usable_recipes, grown_from, holding_weights):
            for thing in NO_LOTS:
                fault(self, BadLot, {}, call, EXAMPLE, thing)


class TestGrowing(unittest.TestCase):
    def test_example(self):
        self.assertEqual(grown_from(EXAMPLE, ()), ())
        self.assertEqual(grown_from(EXAMPLE, (0,)), (0, 1))
        self.assertEqual(grown_from(EXAMPLE, (2,)), (0, 1))
        self.assertEqual(least_pinches(EXAMPLE), ((0,), (2,)))
        self.assertIs(begins(EXAMPLE, [0], [ONE, ONE, ZERO]), True)
        self.assertIs(begins(EXAMPLE, (1,), (ZERO, ONE, ZERO)), False)
        self.assertIs(begins(EXAMPLE, (), (ZERO,) * 3), True)
        self.assertEqual(holding_weights(EXAMPLE, (0,)), (0, 0, 1))
        self.assertIsNone(holding_weights(Works(1, [Recipe(0, ONE, [ZERO])]), ()))

    def test_drawn_works(self):
        draw = Draw(62)
        for _ in range(150):
            works = drawn_works(draw)
            pinch = draw.lot(works.goods)
            numbers = usable(works, pinch)
            grown = plain_made(works, (), numbers)
            self.assertEqual(grown_from(works, pinch), grown)
            wish = draw.row(works.goods, 0, 2, 6)
            self.assertIs(begins(works, pinch, wish), all(good in grown for good in pinch_of(wish)))
            weights = holding_weights(works, list(pinch))
            held = tuple(good for good in range(works.goods) if good not in grown)
            if held:
                weights_of_wholes(self, weights, works.goods)
                self.assertEqual(tuple(good for good, weight in enumerate(weights) if weight), held)
                self.assertFalse(loses(works, weights, numbers))
            else:
                self.assertIsNone(weights)

    def test_least_pinches(self):
        draw = Draw(63)
        many = 0
        for _ in range(100):
            works = eating_works(draw) if draw.chance(2, 3) else drawn_works(draw)
            made = plain_made(works)
            growing = []
            for pinch in lots_of(works.goods):
                grown = plain_made(works, (), usable(works, pinch))
                all_grow = set(made) <= set(grown)
                # Every good that can be made grows exactly if the closure holds them all.
                self.assertEqual(all_grow, set(made) <= set(plain_closure(works, pinch)))
                if all_grow:
                    growing.append(pinch)
            least = tuple(one for one in growing if not any(set(other) < set(one) for other in growing))
            self.assertEqual(least_pinches(works), least)
            many += len(least) > 1
        self.assertTrue(many > 20, many)
        self.assertEqual(least_pinches(Works(2, ())), ((),))
        self.assertEqual(least_pinches(RING), ((),))

    def test_faults(self):
        for thing in NO_LOTS:
            fault(self, BadLot, {}, begins, EXAMPLE, thing, None)
        for thing in NO_SEQUENCES + ((), (ONE,) * 2, (ONE,) * 4, (ONE, ONE, (-1, 2))):
            fault(self, BadWish, {}, begins, EXAMPLE, (), thing)
        for thing in NO_RATIOS:
            fault(self, BadWish, {}, begins, EXAMPLE, (), (ONE, ONE, thing))

    def test_passed_lists_stay(self):
        pinch, wish = [0], [ONE, ZERO, ZERO]
        closure(EXAMPLE, pinch), steps_from(EXAMPLE, pinch), begins(EXAMPLE, pinch, wish)
        self.assertEqual((pinch, wish), ([0], [ONE, ZERO, ZERO]))


class TestMostEver(unittest.TestCase):
    def check(self, works, stock, good):
        told = most_ever(works, stock, good)
        numbers = usable(works, pinch_of(stock))
        if good in plain_made(works, (), numbers):
            self.assertIsNone(told)
            return None
        self.assertIs(told.__class__, Ceiling)
        ratio_kinds(self, [told.value])
        for row, many in ((told.worth, works.goods), (told.amounts, len(works))):
            self.assertIsInstance(row, tuple)
            self.assertEqual(len(row), many)
            ratio_kinds(self, row)
            self.assertTrue(all(one[0] >= 0 for one in row))
        self.assertTrue(frac(told.worth[good]) >= 1)
        for number in numbers:
            recipe = works.recipes[number]
            self.assertTrue(frac(told.worth[recipe.good]) <= summed(fracs(recipe.eats), fracs(told.worth)))
        self.assertEqual(summed(fracs(stock), fracs(told.worth)), frac(told.value))
        self.assertTrue(all(amount == ZERO or number in numbers for number, amount in enumerate(told.amounts)))
        left = [has + net for has, net in zip(fracs(stock), plain_net(works, told.amounts))]
        self.assertTrue(min(left) >= 0)
        self.assertEqual(left[good], frac(told.value))
        return told

    def test_example(self):
        told = self.check(EXAMPLE, (ZERO, ZERO, (5, 1)), 2)
        self.assertEqual(told.value, (5, 1))
        self.assertEqual(self.check(EXAMPLE, (ZERO, (3, 1), ZERO), 0).value, ZERO)
        self.assertEqual(self.check(EXAMPLE, (ZERO, (3, 1), ZERO), 1).value, (3, 1))
        self.assertIsNone(self.check(EXAMPLE, (ONE, ZERO, ZERO), 1))
        self.assertEqual(self.check(EXAMPLE, (ZERO, ZERO, ZERO), 0).value, ZERO)
        self.assertEqual(most_ever(EXAMPLE, [ZERO, ZERO, ONE], 2).value, ONE)

    def test_what_is_made_of_the_last_of_a_good(self):
        works = Works(2, [Recipe(0, ONE, (ZERO, HALF))])
        self.assertEqual(self.check(works, (ONE, (3, 1)), 0).value, (7, 1))
        self.assertEqual(self.check(works, (ONE, (3, 1)), 1).value, (3, 1))
        # Good 0 doubles by eating of good 1, which has no recipe.
        works = Works(2, [Recipe(0, ONE, (HALF, ONE))])
        self.assertEqual(self.check(works, (ONE, (4, 1)), 0).value, (3, 1))
        self.assertEqual(self.check(works, (ZERO, (4, 1)), 0).value, ZERO)
        long = 10 ** 250
        self.assertEqual(self.check(works, ((1, long), (long, 1)), 0).value, back(frac((1, long)) + frac((long, 2))))

    def test_drawn_works(self):
        draw = Draw(64)
        rising = 0
        for _ in range(200):
            works = drawn_works(draw)
            stock = drawn_stock(draw, works)
            for good in range(works.goods):
                told = self.check(works, list(stock), good)
                if told is not None:
                    rising += frac(told.value) > frac(stock[good])
                    # The smaller the pinch, the less can ever be had.
                    size = draw.ratio(1, 3)
                    scaled = tuple(back(frac(has) * frac(size)) for has in stock)
                    value = most_ever(works, scaled, good).value
                    self.assertEqual(frac(value), frac(told.value) * frac(size))
        self.assertTrue(rising > 20, rising)

    def test_drawn_uses_never_leave_more(self):
        draw = Draw(65)
        for _ in range(60):
            works = drawn_works(draw)
            held = fracs(drawn_stock(draw, works))
            tops = [most_ever(works, tuple(back(has) for has in held), good) for good in range(works.goods)]
            for _ in range(12):
                if not len(works):
                    break
                recipe = draw.pick(works.recipes)
                parts = [has / frac(eats) for has, eats in zip(held, recipe.eats) if eats[0]]
                amount = min(parts) * frac(draw.ratio(0, 1, 4)) if parts else frac(draw.ratio(0, 9))
                held = [has - amount * frac(eats) for has, eats in zip(held, recipe.eats)]
                held[recipe.good] += amount
                for top, has in zip(tops, held):
                    self.assertTrue(top is None or has <= frac(top.value))

    def test_less_than_the_value_is_reached(self):
        draw = Draw(66)
        reached = 0
        for _ in range(120):
            works = drawn_works(draw)
            stock = drawn_stock(draw, works)
            for good in range(works.goods):
                told = most_ever(works, stock, good)
                if told is None or frac(told.value) <= frac(stock[good]):
                    continue
                part = frac((1, 100))
                starts, held = self.seeded(works, stock, part)
                moved = [frac(amount) * (1 - part) for amount in told.amounts]
                eaten = [sum((amount * frac(recipe.eats[g]) for amount, recipe in zip(moved, works)), frac(ZERO))
                         for g in range(works.goods)]
                many = 1 + max([int(eats / has * 200) for eats, has in zip(eaten, held) if eats] + [0])
                # The seeds took a hundredth of the stock at the most: so much less is moved, bit by bit.
                turn = [back(amount * (1 - 2 * part) / many) for amount in moved]
                behind = play_plan(works, stock, Plan(starts, ((turn, many),)))
                self.assertIsInstance(behind, tuple)
                self.assertTrue(frac(behind[good]) >= frac(told.value) * frac((9, 10)))
                reached += 1
        self.assertTrue(reached > 10, reached)

    def seeded(self, works, stock, part):
        """Uses of small amounts behind which some of each good of the closure is in hand, and the stock then."""
        held = fracs(stock)
        starts = []
        while True:
            had = {good for good, has in enumerate(held) if has}
            left = [number for number, recipe in enumerate(works)
                    if recipe.good not in had and set(eaten_goods(recipe)) <= had]
            if not left:
                return tuple(starts), held
            recipe = works.recipes[left[0]]
            parts = [has / frac(eats) for has, eats in zip(held, recipe.eats) if eats[0]]
            amount = min(parts + [frac(ONE)]) * part / 10
            held = [has - amount * frac(eats) for has, eats in zip(held, recipe.eats)]
            held[recipe.good] += amount
            starts.append((left[0], back(amount)))

    def test_faults(self):
        for thing in NO_SEQUENCES + ((), (ONE,) * 2, (ONE,) * 4, (ONE, ONE, (-1, 2))):
            fault(self, BadStock, {}, most_ever, EXAMPLE, thing, None)
        for thing in NO_RATIOS:
            fault(self, BadStock, {}, most_ever, EXAMPLE, (ONE, ONE, thing), None)
        for thing in NO_WHOLES + (3, -1):
            fault(self, NoGood, {"good": thing}, most_ever, EXAMPLE, (ONE, ONE, ONE), thing)

    def test_result(self):
        things = [1], [2], [3]
        told = Ceiling(*things)
        self.assertTrue(told.value is things[0] and told.worth is things[1] and told.amounts is things[2])
        self.assertTrue(Ceiling(1, 2, 3) == Ceiling(1, 2, 3))
        for other in (Ceiling(0, 2, 3), Ceiling(1, 0, 3), Ceiling(1, 2, 0), (1, 2, 3)):
            self.assertFalse(Ceiling(1, 2, 3) == other)


if __name__ == "__main__":
    unittest.main()
