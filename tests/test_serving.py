import unittest

from leastlabour.errors import BadLabour, BadWish, NotMade
from leastlabour.manners import all_best, best_manner
from leastlabour.ownrows import manner_amounts
from leastlabour.prices import greatest_prices
from leastlabour.ratios import ONE, ZERO, minus, plus, plus_rows, times_row
from leastlabour.serving import Served, least_labour, most_times, serve, served_fault
from leastlabour.works import Recipe, Works
from tests.drawing import HALF, NO_RATIOS, NO_SEQUENCES, Draw, back, fault, frac, fracs, ratio_kinds, summed
from tests.plain import plain_net
from tests.test_making import EXAMPLE
from tests.test_manners import TIED, able, any_works, tied_works
from tests.test_prices import MORE

TWO, NONE = (2, 1), Works(2, ())


def plain_labour(works, wish):
    """The least labour of a wish over all manners, or the least good that is wished and cannot be made, in a list."""
    manners = able(works)
    lacking = [good for good, many in enumerate(wish) if many != ZERO and good not in manners[0][1]]
    if lacking:
        return lacking[:1]
    return min(sum(row[good] * frac(wish[good]) for good in row) for _, row in manners)


def made_wish(draw, works, zeros=3):
    """A wish of goods that can be made."""
    prices = greatest_prices(works)
    return tuple(ZERO if price is None or draw.chance(zeros, 10) else draw.ratio(0, 4) for price in prices)


class TestServe(unittest.TestCase):
    def check(self, works, wish):
        told = serve(works, wish)
        self.assertIs(told.__class__, Served)
        self.assertEqual(frac(told.labour), plain_labour(works, wish))
        self.assertEqual(told.labour, least_labour(works, wish))
        self.assertIsInstance(told.amounts, tuple)
        self.assertEqual(len(told.amounts), len(works))
        ratio_kinds(self, told.amounts + (told.labour,))
        self.assertEqual(plain_net(works, told.amounts), fracs(wish))
        self.assertEqual(summed(fracs(told.amounts), [frac(recipe.labour) for recipe in works]), frac(told.labour))
        manner = best_manner(works)
        for number, amount in enumerate(told.amounts):
            self.assertTrue(amount[0] >= 0)
            self.assertTrue(amount == ZERO or number in manner)
        self.assertEqual(told.prices, greatest_prices(works))
        self.assertIsNone(served_fault(works, wish, told))
        self.assertEqual(serve(works, list(wish)), told)
        return told

    def test_example(self):
        self.assertEqual(self.check(MORE, (ZERO, ONE)), Served((7, 4), (ZERO, ONE, HALF), ((3, 2), (7, 4))))
        self.assertEqual(least_labour(MORE, [ZERO, ONE]), (7, 4))
        self.assertEqual(self.check(TIED, (ONE, ONE)).amounts, (ONE, ONE, ZERO, ZERO, ZERO))

    def test_wish_of_zeros(self):
        for works in (MORE, EXAMPLE, NONE, Works(1, [Recipe(0, ONE, (ONE,))])):
            told = self.check(works, (ZERO,) * works.goods)
            self.assertEqual((told.labour, told.amounts), (ZERO, (ZERO,) * len(works)))
        self.assertEqual(serve(NONE, (ZERO, ZERO)), Served(ZERO, (), (None, None)))

    def test_drawn_works(self):
        draw = Draw(211)
        for _ in range(150):
            works = any_works(draw)
            self.check(works, made_wish(draw, works))

    def test_goods_that_cannot_be_made(self):
        draw = Draw(212)
        seen = 0
        for _ in range(80):
            works, wish = any_works(draw), draw.row(4, 0, 2, 5)
            wish = wish[:works.goods] + (ZERO,) * (works.goods - 4)
            lacking = plain_labour(works, wish)
            if isinstance(lacking, list):
                seen += 1
                for call, more in ((least_labour, ()), (serve, ()), (most_times, (ONE,))):
                    fault(self, NotMade, {"good": lacking[0]}, call, works, wish, *more)
        self.assertTrue(seen > 20, seen)
        fault(self, NotMade, {"good": 2}, serve, EXAMPLE, (ZERO, ZERO, (1, 10 ** 200)))
        fault(self, NotMade, {"good": 0}, least_labour, NONE, (ONE, ONE))

    def test_no_wishes(self):
        for call, more in ((least_labour, ()), (serve, ()), (served_fault, (None,)), (most_times, (None,))):
            for thing in NO_SEQUENCES + ((), (ONE,), (ONE,) * 3, (ONE, (-1, 2))):
                fault(self, BadWish, {}, call, MORE, thing, *more)
            for thing in NO_RATIOS:
                fault(self, BadWish, {}, call, MORE, (ONE, thing), *more)
        fault(self, BadWish, {}, least_labour, NONE, (ONE, None))

    def test_many_figures(self):
        long = 10 ** 290
        told = self.check(MORE, ((long, 1), (1, long)))
        self.assertEqual(frac(told.labour), 3 * frac((long, 2)) + 7 * frac((1, 4 * long)))

    def test_more_of_a_wish(self):
        draw = Draw(213)
        for _ in range(60):
            works = any_works(draw)
            one, other, size = made_wish(draw, works), made_wish(draw, works), draw.ratio(0, 5)
            self.assertEqual(least_labour(works, plus_rows(one, other)),
                             plus(least_labour(works, one), least_labour(works, other)))
            self.assertEqual(frac(least_labour(works, times_row(one, size))),
                             frac(size) * frac(least_labour(works, one)))

    def test_no_amounts_serve_by_less(self):
        draw = Draw(214)
        for _ in range(60):
            works = any_works(draw)
            wish = made_wish(draw, works)
            amounts = [draw.ratio(0, 6) for _ in works]
            net = plain_net(works, amounts)
            if all(left >= frac(asked) for left, asked in zip(net, wish)):
                labour = summed(fracs(amounts), [frac(recipe.labour) for recipe in works])
                self.assertTrue(labour >= frac(least_labour(works, wish)))

    def test_passed_lists_stay(self):
        wish = [ZERO, ONE]
        least_labour(MORE, wish), serve(MORE, wish), most_times(MORE, wish, ONE)
        served = serve(MORE, wish)
        served_fault(MORE, wish, served)
        self.assertEqual(wish, [ZERO, ONE])


class TestLedAlong(unittest.TestCase):
    def test_renamed_scaled_and_times(self):
        draw = Draw(215)
        for _ in range(60):
            works, size = any_works(draw), back(frac(draw.ratio(1, 9)) / 4)
            wish, good = made_wish(draw, works), draw.whole(0, works.goods - 1)
            labour = least_labour(works, wish)
            order = sorted(range(works.goods), key=lambda one: draw.whole(0, 999))
            moved = [ZERO] * works.goods
            for place, many in enumerate(wish):
                moved[order[place]] = many
            self.assertEqual(least_labour(works.renamed(order), moved), labour)
            fewer = list(wish)
            fewer[good] = back(frac(wish[good]) / frac(size))
            self.assertEqual(least_labour(works.scaled_good(good, size), fewer), labour)
            self.assertEqual(frac(least_labour(works.times_labour(size), wish)), frac(labour) * frac(size))


class TestJudge(unittest.TestCase):
    def test_right_answers(self):
        draw = Draw(216)
        for _ in range(60):
            works = tied_works(draw)
            wish = made_wish(draw, works)
            labour, prices = least_labour(works, wish), greatest_prices(works)
            for manner in list(all_best(works))[:4]:
                amounts = manner_amounts(works, manner, wish)
                self.assertIsNone(served_fault(works, wish, Served(labour, amounts, prices)))
                self.assertIsNone(served_fault(works, list(wish), Served(labour, list(amounts), list(prices))))

    def test_prices_of_goods_that_are_not_needed_may_be_less(self):
        wish = (ONE, ZERO)
        told = serve(MORE, wish)
        self.assertIsNone(served_fault(MORE, wish, Served(told.labour, told.amounts, ((3, 2), ONE))))
        self.assertEqual(served_fault(MORE, wish, Served(told.labour, told.amounts, ((3, 2), (9, 10)))), "undercut")
        self.assertEqual(served_fault(MORE, wish, Served(told.labour, told.amounts, (ONE, ONE))), "worth")
        self.assertEqual(served_fault(MORE, wish, Served(told.labour, told.amounts, ((3, 2), TWO))), "undercut")

    def test_words(self):
        wish, right = (ZERO, ONE), serve(MORE, (ZERO, ONE))
        for thing in NO_SEQUENCES + ((), (ZERO, ONE), (ZERO, ONE, HALF, ZERO), (ZERO, (-1, 2), HALF)):
            self.assertEqual(served_fault(MORE, wish, Served(None, thing, None)), "amounts")
        for thing in NO_RATIOS:
            self.assertEqual(served_fault(MORE, wish, Served(right.labour, (ZERO, ONE, thing), None)), "amounts")
        for amounts in ((ZERO, ONE, (1, 3)), (ZERO, (1, 2), HALF), (ZERO,) * 3):
            self.assertEqual(served_fault(MORE, wish, Served(None, amounts, None)), "short")
        for thing in NO_RATIOS + (ZERO, TWO, (-7, 4), (9, 4)):
            self.assertEqual(served_fault(MORE, wish, Served(thing, right.amounts, None)), "labour")
        for thing in NO_SEQUENCES + ((), (ONE,), (ONE,) * 3, (None, ONE), (ONE, None), (ONE, 1), ("x", ONE)):
            self.assertEqual(served_fault(MORE, wish, Served(right.labour, right.amounts, thing)), "prices")
        for prices in (((8, 5), (7, 4)), (TWO, TWO), ((3, 2), TWO)):
            self.assertEqual(served_fault(MORE, wish, Served(right.labour, right.amounts, prices)), "undercut")
        for prices in ((ZERO, ONE), (ONE, (3, 2)), ((-1, 1), ZERO)):
            self.assertEqual(served_fault(MORE, wish, Served(right.labour, right.amounts, prices)), "worth")

    def test_more_labour_than_the_least_is_a_fault_of_the_worth(self):
        # All is right here but that the amounts are dear ones: no let row is worth their labour.
        amounts = (TWO, TWO, ZERO)
        told = Served((4, 1), amounts, greatest_prices(MORE))
        self.assertEqual(served_fault(MORE, (ONE, ONE), told), "worth")

    def test_a_good_that_cannot_be_made_is_short(self):
        told = Served(ONE, (ONE, ONE, ONE), (None,) * 3)
        self.assertEqual(served_fault(EXAMPLE, (ZERO, ZERO, ONE), told), "short")
        self.assertEqual(served_fault(EXAMPLE, (ZERO, ZERO, ONE), Served(ONE, 5, None)), "amounts")
        self.assertEqual(served_fault(NONE, (ONE, ZERO), Served(ZERO, (), (None, None))), "short")
        self.assertIsNone(served_fault(NONE, (ZERO, ZERO), Served(ZERO, (), (None, None))))
        self.assertEqual(served_fault(NONE, (ZERO, ZERO), Served(ZERO, (), (ONE, None))), "prices")

    def test_drawn_spoilt_answers(self):
        draw = Draw(217)
        seen = {}
        for _ in range(250):
            works = any_works(draw)
            wish = made_wish(draw, works)
            right = serve(works, wish)
            things = [right.labour, list(right.amounts), list(right.prices)]
            for _ in range(draw.whole(1, 2)):
                place = draw.whole(0, 2)
                if place == 0:
                    things[0] = plus(things[0], draw.ratio(-1, 1, 9))
                elif things[place] and things[place][(at := draw.whole(0, len(things[place]) - 1))] is not None:
                    things[place][at] = minus(things[place][at], draw.ratio(-1, 1, 9))
            told = served_fault(works, wish, Served(*things))
            seen[told] = seen.get(told, 0) + 1
            self.assertEqual(told, self.word(works, wish, *things))
        self.assertTrue(set(seen) >= {None, "amounts", "short", "labour", "undercut", "worth"}, seen)

    def word(self, works, wish, labour, amounts, prices):
        """The word for amounts and prices that are ratios, by fractions."""
        if any(amount[0] < 0 for amount in amounts):
            return "amounts"
        if any(left < frac(asked) for left, asked in zip(plain_net(works, amounts), wish)):
            return "short"
        if frac(labour) != summed(fracs(amounts), [frac(recipe.labour) for recipe in works]):
            return "labour"
        row = {good: frac(price) for good, price in enumerate(prices) if price is not None}
        for recipe in works:
            eaten = {good: frac(many) for good, many in enumerate(recipe.eats) if many != ZERO}
            if recipe.good in row and set(eaten) <= set(row):
                cost = frac(recipe.labour) + sum(many * row[good] for good, many in eaten.items())
                if cost < row[recipe.good]:
                    return "undercut"
        worth = sum(row[good] * frac(many) for good, many in enumerate(wish) if many != ZERO)
        return None if worth == frac(labour) else "worth"


class TestMostTimes(unittest.TestCase):
    def test_example(self):
        self.assertEqual(most_times(MORE, (ZERO, ONE), (7, 1)), (4, 1))
        self.assertEqual(most_times(MORE, [ZERO, ONE], ONE), (4, 7))
        self.assertEqual(most_times(MORE, (ZERO, ONE), ZERO), ZERO)
        self.assertIsNone(most_times(MORE, (ZERO, ZERO), ONE))
        self.assertIsNone(most_times(MORE, (ZERO, ZERO), ZERO))
        self.assertIsNone(most_times(NONE, (ZERO, ZERO), ONE))

    def test_drawn_works(self):
        draw = Draw(218)
        for _ in range(60):
            works = any_works(draw)
            wish, labour = made_wish(draw, works), draw.ratio(0, 9)
            told = most_times(works, wish, labour)
            if all(many == ZERO for many in wish):
                self.assertIsNone(told)
                continue
            ratio_kinds(self, (told,))
            self.assertEqual(frac(told) * plain_labour(works, wish), frac(labour))

    def test_faults(self):
        for thing in NO_RATIOS + ((-1, 2),):
            fault(self, BadLabour, {}, most_times, MORE, (ONE, ONE), thing)
            fault(self, BadLabour, {}, most_times, EXAMPLE, (ONE, ONE, ONE), thing)
            fault(self, BadLabour, {}, most_times, MORE, (ZERO, ZERO), thing)
        fault(self, NotMade, {"good": 2}, most_times, EXAMPLE, (ONE, ONE, ONE), ZERO)


if __name__ == "__main__":
    unittest.main()
