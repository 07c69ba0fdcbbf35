import unittest

from leastlabour.errors import BadOffer, BadWish, NotMade
from leastlabour.frontiers import (TooLittle, TwoServed, can_serve, frontier_of, least_first, least_second,
                                   too_little_fault, two_served_fault)
from leastlabour.ratios import ONE, ZERO, plus
from leastlabour.shares import cuts_of, prices_at
from leastlabour.twoworks import TwoRecipe, TwoWorks
from tests.drawing import (HALF, NO_RATIOS, NO_SEQUENCES, Draw, back, fault, frac, fracs, is_plain, ratio_kinds,
                           summed)
from tests.plain import plain_net
from tests.plaintwo import Plain, mix, plain_frontier, plain_least_second
from tests.test_shares import LANDS, QUARTER, THREE, TWO, one_good
from tests.test_twoworks import BOTH, NO_SHARES, NONE

FIVE = (5, 1)
ONES = (ONE, ONE)
NO_OFFERS = NO_RATIOS + ((-1, 2),)


def drawn(draw, zeros=7):
    """Two works, a wish of goods that can be made, and a plain going through of their manners."""
    two = draw.two_works(most=9, zeros=zeros)
    plain = Plain(two)
    wish = tuple(draw.ratio(0, 3) if good in plain.made and draw.chance(3, 4) else ZERO for good in range(two.goods))
    return two, wish, plain


class TestFrontier(unittest.TestCase):
    def test_example(self):
        self.assertEqual(frontier_of(LANDS, ONES), ((ZERO, FIVE), (ONE, TWO), (THREE, ZERO)))
        self.assertEqual(frontier_of(LANDS, [ONE, ZERO]), ((ZERO, THREE), (ONE, ZERO)))
        self.assertEqual(frontier_of(LANDS, (ZERO, ZERO)), ((ZERO, ZERO),))
        self.assertEqual(frontier_of(NONE, (ZERO, ZERO)), ((ZERO, ZERO),))
        self.assertEqual(frontier_of(BOTH, (ONE, ZERO, ZERO)), ((ZERO, (4, 1)), (ONE, ZERO)))

    def test_drawn_works(self):
        draw = Draw(291)
        sizes = {}
        for _ in range(150):
            two, wish, plain = drawn(draw)
            told = frontier_of(two, wish)
            is_plain(self, told)
            for corner in told:
                ratio_kinds(self, corner)
            self.assertEqual([tuple(fracs(corner)) for corner in told], plain_frontier(plain.points(fracs(wish))))
            for one, other in zip(told, told[1:]):
                self.assertTrue(frac(one[0]) < frac(other[0]) and frac(one[1]) > frac(other[1]))
            self.assertTrue(len(told) <= len(cuts_of(two)) + 1)
            sizes[len(told)] = sizes.get(len(told), 0) + 1
        self.assertTrue(sizes[1] > 20 and sizes[2] > 20 and sizes[3] > 5, sizes)

    def test_least_second_and_first(self):
        draw = Draw(292)
        seen = {True: 0, False: 0}
        for _ in range(120):
            two, wish, plain = drawn(draw)
            points = plain.points(fracs(wish))
            turned = [(second, first) for first, second in points]
            offers = [draw.ratio(0, 9) for _ in range(2)]
            for first, second in frontier_of(two, wish):
                offers += [first, second, plus(first, (1, 10 ** 9))]
            for offer in offers:
                for call, line in ((least_second, points), (least_first, turned)):
                    told = call(two, wish, offer)
                    wanted = plain_least_second(line, frac(offer))
                    self.assertEqual(None if told is None else frac(told), wanted)
                    seen[told is None] += 1
                    if told is not None:
                        ratio_kinds(self, (told,))
        self.assertTrue(min(seen.values()) > 50, seen)

    def test_edges(self):
        self.assertEqual(least_second(LANDS, ONES, ZERO), FIVE)
        self.assertEqual(least_second(LANDS, ONES, HALF), (7, 2))
        self.assertEqual(least_second(LANDS, ONES, ONE), TWO)
        self.assertEqual(least_second(LANDS, ONES, TWO), ONE)
        self.assertEqual(least_second(LANDS, ONES, THREE), ZERO)
        self.assertEqual(least_second(LANDS, ONES, (900, 1)), ZERO)
        self.assertEqual(least_first(LANDS, ONES, ZERO), THREE)
        self.assertEqual(least_first(LANDS, ONES, TWO), ONE)
        self.assertEqual(least_first(LANDS, ONES, (7, 2)), HALF)
        self.assertEqual(least_first(LANDS, ONES, FIVE), ZERO)
        self.assertEqual(least_first(LANDS, ONES, (900, 1)), ZERO)
        two = one_good((TWO, THREE), (THREE, TWO))
        self.assertIsNone(least_second(two, (ONE,), (19, 10)))
        self.assertEqual(least_second(two, (ONE,), TWO), THREE)
        self.assertIsNone(least_first(two, (ONE,), (19, 10)))
        self.assertEqual(least_first(two, (ONE,), (5, 2)), (5, 2))
        self.assertEqual(least_second(NONE, (ZERO, ZERO), ZERO), ZERO)
        self.assertEqual(least_first(BOTH, (ZERO,) * 3, HALF), ZERO)

    def test_faults(self):
        calls = ((frontier_of, ()), (least_second, (None,)), (least_first, (None,)), (can_serve, (None, None)),
                 (two_served_fault, (None, None, None)), (too_little_fault, (None, None, None)))
        for call, more in calls:
            for thing in NO_SEQUENCES + ((), (ONE,), (ONE,) * 3, (ONE, (-1, 2))):
                fault(self, BadWish, {}, call, LANDS, thing, *more)
            for thing in NO_RATIOS:
                fault(self, BadWish, {}, call, LANDS, (thing, ONE), *more)
        for call, more in calls[3:]:
            for thing in NO_OFFERS:
                fault(self, BadOffer, {"what": "first"}, call, BOTH, (ONE,) * 3, thing, None, *more[2:])
                fault(self, BadOffer, {"what": "second"}, call, BOTH, (ONE,) * 3, ZERO, thing, *more[2:])
            fault(self, NotMade, {"good": 2}, call, BOTH, (ONE,) * 3, ZERO, ZERO, *more[2:])
            fault(self, NotMade, {"good": 0}, call, NONE, ONES, ZERO, ZERO, *more[2:])
        for thing in NO_OFFERS:
            fault(self, BadOffer, {"what": "first"}, least_second, BOTH, (ONE,) * 3, thing)
            fault(self, BadOffer, {"what": "second"}, least_first, BOTH, (ONE,) * 3, thing)
        for call, more in calls[:1] + ((least_second, (ZERO,)), (least_first, (ZERO,))):
            fault(self, NotMade, {"good": 2}, call, BOTH, [ONE, ONE, HALF], *more)
            fault(self, NotMade, {"good": 1}, call, NONE, (ZERO, HALF), *more)

    def test_passed_lists_stay(self):
        wish = [ONE, ONE]
        frontier_of(LANDS, wish), least_first(LANDS, wish, ONE), least_second(LANDS, wish, ONE)
        for offer in (ONE, FIVE):
            can_serve(LANDS, wish, offer, offer)
            two_served_fault(LANDS, wish, offer, offer, TwoServed((ONE,) * 4, ONE, ONE))
            too_little_fault(LANDS, wish, offer, offer, TooLittle(ONE, (ONE, ONE)))
        self.assertEqual(wish, [ONE, ONE])


class TestCanServe(unittest.TestCase):
    def check(self, two, wish, plain, first, second):
        told = can_serve(two, list(wish), first, second)
        offer = (frac(first), frac(second))
        least = plain_least_second(plain.points(fracs(wish)), offer[0])
        shares = [ZERO] + list(cuts_of(two)) + [ONE]
        worths = [sum(price * frac(wish[good]) for good, price in plain.row(frac(share)).items()) for share in shares]
        short = [k for k, share in enumerate(shares) if worths[k] > mix(offer, frac(share))]
        # It can be served exactly if no share bars it.
        self.assertIs(least is not None and least <= offer[1], not short)
        if short:
            self.assertEqual(told, TooLittle(shares[short[0]], prices_at(two, shares[short[0]])))
            is_plain(self, told.prices)
            self.assertIsNone(too_little_fault(two, wish, first, second, told))
            return told
        self.assertIs(told.__class__, TwoServed)
        is_plain(self, told.amounts)
        self.assertEqual(len(told.amounts), len(two))
        ratio_kinds(self, told.amounts + (told.first, told.second))
        self.assertTrue(all(amount[0] >= 0 for amount in told.amounts))
        self.assertTrue(all(left >= asked for left, asked in zip(plain_net(two, told.amounts), fracs(wish))))
        taken = [summed(fracs(told.amounts), [frac(recipe.first) for recipe in two]),
                 summed(fracs(told.amounts), [frac(recipe.second) for recipe in two])]
        self.assertEqual(fracs((told.first, told.second)), taken)
        self.assertTrue(taken[0] <= offer[0] and taken[1] <= offer[1])
        self.assertIsNone(two_served_fault(two, wish, first, second, told))
        return told

    def test_example(self):
        plain = Plain(LANDS)
        for first, second, kind in ((ZERO, FIVE, TwoServed), (ONE, TWO, TwoServed), (THREE, ZERO, TwoServed),
                                    (TWO, ONE, TwoServed), (HALF, (7, 2), TwoServed), ((9, 1), (9, 1), TwoServed),
                                    (ZERO, (49, 10), TooLittle), ((99, 100), TWO, TooLittle),
                                    (ONE, (199, 100), TooLittle), ((29, 10), ZERO, TooLittle), (ZERO, ZERO, TooLittle)):
            self.assertIs(self.check(LANDS, ONES, plain, first, second).__class__, kind)
        self.assertEqual(can_serve(LANDS, ONES, ZERO, (49, 10)).share, QUARTER)
        self.assertEqual(can_serve(LANDS, ONES, (29, 10), ZERO).share, HALF)
        self.assertEqual(can_serve(LANDS, ONES, TWO, (9, 10)).share, HALF)

    def test_too_little_at_the_ends(self):
        two = one_good((TWO, THREE), (THREE, TWO))
        plain = Plain(two)
        self.assertEqual(self.check(two, (ONE,), plain, ONE, (9, 1)), TooLittle(ZERO, (TWO,)))
        self.assertEqual(self.check(two, (ONE,), plain, (9, 1), ONE), TooLittle(ONE, (TWO,)))
        self.assertEqual(self.check(two, (ONE,), plain, (12, 5), (12, 5)), TooLittle(HALF, ((5, 2),)))

    def test_wish_of_zeros(self):
        for two in (LANDS, BOTH, NONE):
            told = self.check(two, (ZERO,) * two.goods, Plain(two), ZERO, ZERO)
            self.assertEqual(told, TwoServed((ZERO,) * len(two), ZERO, ZERO))

    def test_drawn_offers(self):
        draw = Draw(293)
        kinds = {}
        for _ in range(120):
            two, wish, plain = drawn(draw)
            for _ in range(2):
                told = self.check(two, wish, plain, draw.ratio(0, 8), draw.ratio(0, 8))
                kinds[told.__class__] = kinds.get(told.__class__, 0) + 1
        self.assertTrue(min(kinds.values()) > 60, kinds)

    def test_offers_at_a_little_below_and_above_the_frontier(self):
        draw = Draw(294)
        tiny = frac((1, 10 ** 12))
        for _ in range(80):
            two, wish, plain = drawn(draw)
            corners = frontier_of(two, wish)
            at = draw.whole(0, len(corners) - 1)
            one, other = fracs(corners[at]), fracs(corners[min(at + 1, len(corners) - 1)])
            part = frac(draw.ratio(0, 1))
            first, second = [(1 - part) * a + part * b for a, b in zip(one, other)]
            self.assertIs(self.check(two, wish, plain, back(first), back(second)).__class__, TwoServed)
            self.check(two, wish, plain, back(first + tiny), back(second + tiny))
            for less, more in ((tiny, 0), (0, tiny)):
                if first >= less and second >= more:
                    told = self.check(two, wish, plain, back(first - less), back(second - more))
                    on_the_line = part not in (0, 1) and one != other
                    self.assertTrue(told.__class__ is TooLittle or not on_the_line)

    def test_asked_twice(self):
        draw = Draw(295)
        for _ in range(30):
            two, wish, _ = drawn(draw)
            one, other = draw.ratio(0, 8), draw.ratio(0, 8)
            self.assertEqual(can_serve(two, wish, one, other), can_serve(two, wish, one, other))
            turned = can_serve(two.swapped(), wish, other, one)
            self.assertIs(turned.__class__, can_serve(two, wish, one, other).__class__)


class TestServedJudge(unittest.TestCase):
    def word(self, amounts, first, second, offer=(TWO, TWO)):
        return two_served_fault(LANDS, ONES, *offer, TwoServed(amounts, first, second))

    def test_words(self):
        right = (ONE, ZERO, ZERO, ONE)
        self.assertIsNone(self.word(right, ONE, TWO))
        self.assertIsNone(self.word(list(right), ONE, TWO))
        self.assertIsNone(self.word((ONE, HALF, ZERO, HALF), TWO, ONE))
        for thing in NO_SEQUENCES + ((), right[:3], right + (ZERO,), (None,) * 3):
            self.assertEqual(self.word(thing, None, None), "many")
        for thing in NO_RATIOS + ((-1, 2),):
            self.assertEqual(self.word((ONE, ZERO, thing, ONE), None, None), "amount")
            self.assertEqual(self.word([thing, ZERO, ZERO, ZERO], None, None), "amount")
        for amounts in ((ZERO,) * 4, (ONE, ZERO, (9, 1), ZERO), ((9, 10), ZERO, ZERO, ONE)):
            self.assertEqual(self.word(amounts, None, None), "short")
        for thing in NO_RATIOS + (ZERO, TWO, (-1, 1)):
            self.assertEqual(self.word(right, thing, None), "first")
        for thing in NO_RATIOS + (ZERO, ONE, (-2, 1)):
            self.assertEqual(self.word(right, ONE, thing), "second")
        # Right labours that are more than the offer.
        self.assertEqual(self.word(right, ONE, TWO, (HALF, TWO)), "first")
        self.assertEqual(self.word(right, ONE, TWO, (ONE, ONE)), "second")
        self.assertEqual(self.word(right, ONE, TWO, (HALF, ONE)), "first")
        self.assertEqual(self.word(right, ONE, ONE, (HALF, ONE)), "first")
        self.assertIsNone(self.word(right, ONE, TWO, (ONE, TWO)))

    def test_the_offer_itself_is_not_what_the_amounts_take(self):
        self.assertEqual(self.word((ONE, ZERO, ZERO, ONE), TWO, TWO), "first")
        self.assertEqual(self.word((ONE, ZERO, ZERO, ONE), ONE, (5, 2), (TWO, THREE)), "second")


class TestTooLittleJudge(unittest.TestCase):
    def word(self, share, prices, offer=(ONE, ONE)):
        return too_little_fault(LANDS, ONES, *offer, TooLittle(share, prices))

    def test_words(self):
        self.assertIsNone(self.word(QUARTER, ((3, 4), HALF)))
        self.assertIsNone(self.word(QUARTER, [(3, 4), HALF]))
        self.assertIsNone(self.word((1, 3), ((2, 3), (2, 3))))
        self.assertIsNone(self.word(HALF, (HALF, ONE)))
        self.assertIsNone(self.word(HALF, (ZERO, ONE), (ONE, HALF)))
        for thing in NO_SHARES:
            self.assertEqual(self.word(thing, None), "share")
        for thing in NO_SEQUENCES + ((), (ONE,), (ONE,) * 3, (None, ONE), (ONE, None), (ONE, (-1, 2)), (ONE, 1)):
            self.assertEqual(self.word(QUARTER, thing), "prices")
        for thing in NO_RATIOS:
            self.assertEqual(self.word(QUARTER, (thing, (9, 1))), "prices")
        for prices in ((ONE, HALF), ((3, 4), ONE), ((9, 1), ZERO)):
            self.assertEqual(self.word(QUARTER, prices), "undercut")
        self.assertEqual(self.word(ZERO, ((3, 4), HALF)), "undercut")
        self.assertEqual(self.word(ONE, ((3, 4), HALF)), "undercut")
        for prices in ((ZERO, ZERO), (HALF, HALF), ((3, 4), QUARTER)):
            self.assertEqual(self.word(QUARTER, prices), "paid")
        self.assertEqual(self.word(ZERO, (ZERO, ZERO)), "paid")
        self.assertEqual(self.word(QUARTER, ((3, 4), HALF), (ONE, TWO)), "paid")
        self.assertEqual(self.word(QUARTER, ((3, 4), ONE), (ONE, TWO)), "undercut")

    def test_goods_that_cannot_be_made(self):
        wish, prices = (ONE, ZERO, ZERO), (HALF, HALF, None)
        self.assertIsNone(too_little_fault(BOTH, wish, QUARTER, QUARTER, TooLittle(HALF, (HALF, ONE, None))))
        self.assertEqual(too_little_fault(BOTH, wish, HALF, HALF, TooLittle(HALF, prices)), "paid")
        for prices in ((HALF, ONE, ZERO), (HALF, None, None), (None,) * 3):
            self.assertEqual(too_little_fault(BOTH, wish, ZERO, ZERO, TooLittle(HALF, prices)), "prices")

    def test_for_no_offer_both_kinds_are_right(self):
        draw = Draw(296)
        seen = {}
        for _ in range(300):
            two, wish, plain = drawn(draw)
            one, other = draw.ratio(0, 6), draw.ratio(0, 6)
            share = draw.ratio(0, 1)
            row = {good: price * frac(draw.ratio(0, 8, 1)) / 7 for good, price in plain.row(frac(share)).items()}
            prices = tuple(back(row[good]) if good in row else None for good in range(two.goods))
            told = too_little_fault(two, wish, one, other, TooLittle(share, prices))
            seen[told] = seen.get(told, 0) + 1
            if told is None:
                self.assertIs(can_serve(two, wish, one, other).__class__, TooLittle)
            worth = sum(row[good] * frac(wish[good]) for good in row)
            self.assertEqual(told, self.plain_word(two, row, frac(share), worth > mix((frac(one), frac(other)),
                                                                                     frac(share))))
        self.assertTrue(min(seen.get(word, 0) for word in (None, "undercut", "paid")) > 10, seen)

    def plain_word(self, two, row, share, unpaid):
        for recipe in two:
            eaten = [good for good, many in enumerate(recipe.eats) if many != ZERO]
            if recipe.good in row and all(good in row for good in eaten):
                cost = mix((frac(recipe.first), frac(recipe.second)), share)
                if cost + sum(frac(recipe.eats[good]) * row[good] for good in eaten) < row[recipe.good]:
                    return "undercut"
        return None if unpaid else "paid"

    def test_amounts_of_drawn_manners(self):
        draw = Draw(297)
        for _ in range(60):
            two = TwoWorks(2, [TwoRecipe(k % 2, draw.ratio(1, 5), draw.ratio(1, 5), draw.row(2, 0, 1, 8))
                               for k in range(6)])
            amounts, wish = draw.row(6, 0, 4, 2), draw.row(2, 0, 2)
            first = back(summed(fracs(amounts), [frac(recipe.first) for recipe in two]))
            second = back(summed(fracs(amounts), [frac(recipe.second) for recipe in two]))
            if Plain(two).made == (0, 1):
                serves = all(left >= asked for left, asked in zip(plain_net(two, amounts), fracs(wish)))
                told = two_served_fault(two, wish, first, second, TwoServed(amounts, first, second))
                self.assertEqual(told, None if serves else "short")
                if serves:
                    self.assertIs(can_serve(two, wish, first, second).__class__, TwoServed)


if __name__ == "__main__":
    unittest.main()
