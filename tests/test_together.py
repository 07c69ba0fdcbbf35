import unittest

from leastlabour.errors import BadWish, NotMade
from leastlabour.joint import JointRecipe, JointWorks, as_joint
from leastlabour.jointserve import JointServed, joint_least, joint_made
from leastlabour.prices import greatest_prices
from leastlabour.pricerows import price_rows
from leastlabour.ratios import ONE, ZERO
from leastlabour.together import AddsUp, Apart, adds_up, apart_groups, gain_of, separate_prices, together_pairs
from tests.drawing import NO_RATIOS, NO_SEQUENCES, Draw, back, fault, frac, fracs, is_plain, lots_of, ratio_kinds
from tests.plainjoint import is_let_row, part_in, partings_of, plain_costs
from tests.test_joint import BARE
from tests.test_jointserve import LACKING
from tests.test_pricerows import NOTHING, THREE, TWO, pair_works, whole_works

FOUR = (4, 1)


def piece(goods, *lot):
    return tuple(ONE if good in lot else ZERO for good in range(goods))


def three_works(labour):
    """Three goods, each alone for 2, and all of them together for this labour."""
    singles = [JointRecipe(TWO, (ZERO,) * 3, piece(3, good)) for good in range(3)]
    return JointWorks(3, singles + [JointRecipe(labour, (ZERO,) * 3, (ONE,) * 3)])


def beside(draw):
    """Works put together of two that have nothing to do with one another, their goods mixed."""
    one, other = whole_works(draw, draw.whole(1, 2), 3), whole_works(draw, draw.whole(1, 2), 4)
    goods = one.goods + other.goods
    order = sorted(range(goods), key=lambda good: draw.whole(0, 999))
    recipes = []
    for works, start in ((one, 0), (other, one.goods)):
        for recipe in works:
            eats, makes = [ZERO] * goods, [ZERO] * goods
            for good in range(works.goods):
                eats[order[start + good]], makes[order[start + good]] = recipe.eats[good], recipe.makes[good]
            recipes.append(JointRecipe(recipe.labour, eats, makes))
    return JointWorks(goods, recipes)


def some_works(draw):
    return beside(draw) if draw.chance(1, 2) else whole_works(draw)


class TestAddsUp(unittest.TestCase):
    def test_examples(self):
        self.assertEqual(separate_prices(pair_works(TWO)), (TWO, TWO))
        self.assertEqual(adds_up(pair_works(TWO)), Apart((ONE, ZERO), (ZERO, ONE), TWO, FOUR))
        self.assertEqual(adds_up(pair_works(FOUR)), AddsUp((TWO, TWO)))
        self.assertEqual(adds_up(pair_works((9, 1))), AddsUp((TWO, TWO)))
        self.assertEqual(separate_prices(pair_works(ONE)), (ONE, ONE))
        self.assertEqual(adds_up(three_works((5, 1))), Apart((ONE, ONE, ZERO), piece(3, 2), (5, 1), (6, 1)))
        self.assertEqual(adds_up(three_works((6, 1))), AddsUp((TWO, TWO, TWO)))
        self.assertEqual(adds_up(JointWorks(1, [JointRecipe(ONE, (ZERO,), (TWO,))])), AddsUp(((1, 2),)))

    def test_drawn_works(self):
        draw = Draw(251)
        kinds = {AddsUp: 0, Apart: 0}
        for _ in range(120):
            works = some_works(draw)
            cost = plain_costs(works)
            separate = [cost(fracs(piece(works.goods, good))) for good in range(works.goods)]
            row = separate_prices(works)
            self.assertIsInstance(row, tuple)
            ratio_kinds(self, row)
            self.assertEqual(fracs(row), separate)
            told = adds_up(works)
            kinds[told.__class__] += 1
            all_of_it = cost(fracs((ONE,) * works.goods)) == sum(separate)
            self.assertIs(told.__class__ is AddsUp, all_of_it)
            self.assertIs(is_let_row(works, separate), all_of_it)
            self.assertIs(len(price_rows(works)) == 1, all_of_it)
            if all_of_it:
                self.assertEqual(told, AddsUp(row))
                continue
            steps = [(cost(fracs(piece(works.goods, *range(k + 1)))), cost(fracs(piece(works.goods, *range(k)))))
                     for k in range(works.goods)]
            first = min(k for k, (after, before) in enumerate(steps) if after < before + separate[k])
            together, before = steps[first]
            self.assertEqual(told, Apart(piece(works.goods, *range(first)), piece(works.goods, first),
                                         back(together), back(before + separate[first])))
            is_plain(self, (told.one, told.other))
        self.assertTrue(min(kinds.values()) > 15, kinds)

    def test_all_wishes_add_up_or_two_are_told_that_do_not(self):
        draw = Draw(252)
        for _ in range(60):
            works = some_works(draw)
            told, cost = adds_up(works), plain_costs(works)
            if told.__class__ is Apart:
                self.assertTrue(frac(told.together) < frac(told.apart))
                self.assertEqual(frac(told.apart), cost(fracs(told.one)) + cost(fracs(told.other)))
                continue
            for _ in range(3):
                one, other = fracs(draw.row(works.goods, 0, 4)), fracs(draw.row(works.goods, 0, 4))
                self.assertEqual(cost([a + b for a, b in zip(one, other)]), cost(one) + cost(other))

    def test_plain_works_add_up(self):
        draw = Draw(253)
        seen = 0
        while seen < 25:
            works = draw.works(most=8, zeros=8)
            row = greatest_prices(works)
            if None not in row:
                seen += 1
                self.assertEqual(adds_up(as_joint(works)), AddsUp(row))
                self.assertEqual(together_pairs(as_joint(works)), ())
                self.assertEqual(apart_groups(as_joint(works)), tuple((good,) for good in range(works.goods)))


class TestPairs(unittest.TestCase):
    def test_examples(self):
        self.assertEqual(together_pairs(pair_works(TWO)), ((0, 1),))
        self.assertEqual(together_pairs(pair_works(FOUR)), ())
        self.assertEqual(together_pairs(three_works((5, 1))), ())
        self.assertEqual(together_pairs(three_works(THREE)), ((0, 1), (0, 2), (1, 2)))
        self.assertEqual(together_pairs(JointWorks(1, [JointRecipe(ONE, (ZERO,), (ONE,))])), ())

    def test_drawn_works(self):
        draw = Draw(254)
        seen = 0
        for _ in range(100):
            works = some_works(draw)
            cost, told = plain_costs(works), together_pairs(works)
            is_plain(self, told)
            wanted = []
            for g in range(works.goods):
                for h in range(g + 1, works.goods):
                    one, other = fracs(piece(works.goods, g)), fracs(piece(works.goods, h))
                    if cost(fracs(piece(works.goods, g, h))) < cost(one) + cost(other):
                        wanted.append((g, h))
                        continue
                    many, more = frac(draw.ratio(0, 5)), frac(draw.ratio(0, 5))
                    both = [many * a + more * b for a, b in zip(one, other)]
                    self.assertEqual(cost(both), many * cost(one) + more * cost(other))
            self.assertEqual(told, tuple(wanted))
            seen += len(told) > 0
            groups = apart_groups(works)
            self.assertTrue(all(any(g in group and h in group for group in groups) for g, h in told))
        self.assertTrue(30 < seen < 95, seen)


class TestGroups(unittest.TestCase):
    def test_examples(self):
        self.assertEqual(apart_groups(pair_works(TWO)), ((0, 1),))
        self.assertEqual(apart_groups(pair_works(FOUR)), ((0,), (1,)))
        self.assertEqual(apart_groups(three_works((5, 1))), ((0, 1, 2),))
        self.assertEqual(apart_groups(three_works((6, 1))), ((0,), (1,), (2,)))
        both = JointRecipe(ONE, (ZERO,) * 4, piece(4, 0, 2))
        works = JointWorks(4, [both, JointRecipe(ONE, (ZERO,) * 4, piece(4, 1, 3))])
        self.assertEqual(apart_groups(works), ((0, 2), (1, 3)))
        self.assertEqual(together_pairs(works), ((0, 2), (1, 3)))
        self.assertEqual(len(price_rows(works)), 4)

    def test_the_finest_parting(self):
        draw = Draw(255)
        sizes = {}
        for _ in range(70):
            works = some_works(draw)
            told = apart_groups(works)
            is_plain(self, told)
            self.assertEqual(sorted(good for group in told for good in group), list(range(works.goods)))
            self.assertEqual(list(told), sorted(tuple(sorted(group)) for group in told))
            sizes[(works.goods, len(told))] = sizes.get((works.goods, len(told)), 0) + 1
            wishes, cost = self.many_wishes(draw, works), plain_costs(works)
            right = [parting for parting in partings_of(tuple(range(works.goods)))
                     if self.parts(works, wishes, cost, parting)]
            self.assertIn(sorted(told), [sorted(parting) for parting in right])
            for parting in right:
                # Each right parting is made of whole groups of the finest one.
                self.assertTrue(all(any(set(group) <= set(coarse) for coarse in parting) for group in told), parting)
            self.assertIs(adds_up(works).__class__ is AddsUp, len(told) == works.goods)
        self.assertTrue(sizes[(3, 2)] > 3 and sizes[(4, 2)] + sizes[(4, 3)] > 5, sizes)

    def many_wishes(self, draw, works):
        """Wishes at which a parting that is not right fails: those put together of the wishes of two rows are there."""
        wishes = [fracs(row.wish) for row in price_rows(works)] + [fracs(draw.row(works.goods, 0, 4, 3))]
        wishes += [[one[g] if g in lot else other[g] for g in range(works.goods)]
                   for lot in lots_of(works.goods) for one in wishes for other in wishes]
        return list({tuple(wish): wish for wish in wishes}.values())[:400]

    def parts(self, works, wishes, cost, parting):
        """Whether the least labour of many wishes is the sum of those of their parts, and the rows are put together."""
        rows = [row.prices for row in price_rows(works)]
        adds = all(sum(cost(part_in(wish, group)) for group in parting) == cost(wish) for wish in wishes)
        together = 1
        for group in parting:
            together *= len({tuple(row[good] for good in group) for row in rows})
        self.assertIs(adds, together == len(rows), (parting, rows))
        return adds


class TestGain(unittest.TestCase):
    def test_examples(self):
        works = pair_works(TWO)
        self.assertEqual(gain_of(works, (ONE, ZERO), (ZERO, ONE)), TWO)
        self.assertEqual(gain_of(works, [ONE, ZERO], [ONE, ZERO]), ZERO)
        self.assertEqual(gain_of(works, (ZERO, ZERO), (ZERO, ONE)), ZERO)
        self.assertEqual(gain_of(works, (TWO, ZERO), (ZERO, ONE)), TWO)
        self.assertEqual(gain_of(BARE, NOTHING, NOTHING), ZERO)
        self.assertEqual(gain_of(LACKING, piece(4, 0), piece(4, 1)), ONE)

    def test_drawn_works(self):
        draw = Draw(256)
        gains = 0
        for _ in range(100):
            works = some_works(draw)
            cost = plain_costs(works)
            one, other = draw.row(works.goods, 0, 3, 4), draw.row(works.goods, 0, 3, 4)
            told = gain_of(works, list(one), list(other))
            ratio_kinds(self, (told,))
            both = [a + b for a, b in zip(fracs(one), fracs(other))]
            self.assertEqual(frac(told), cost(fracs(one)) + cost(fracs(other)) - cost(both))
            self.assertTrue(told[0] >= 0)
            gains += told != ZERO
            size, more = frac(draw.ratio(0, 7)), frac(draw.ratio(0, 2))
            many = joint_least(works, [back(size * frac(asked)) for asked in one])
            self.assertEqual(frac(many.labour), size * cost(fracs(one)))
            raised = [back(frac(asked) + (more if place == 0 else 0)) for place, asked in enumerate(one)]
            self.assertTrue(frac(joint_least(works, raised).labour) >= cost(fracs(one)))
        self.assertTrue(20 < gains < 90, gains)

    def test_works_of_which_some_good_cannot_be_made(self):
        draw = Draw(257)
        seen = 0
        for _ in range(80):
            works = draw.joint_works(most=4, zeros=6)
            made = joint_made(works)
            one, other = draw.row(works.goods, 0, 2, 6), draw.row(works.goods, 0, 2, 6)
            lacking = [good for wish in (one, other) for good in range(works.goods)
                       if wish[good] != ZERO and good not in made]
            if lacking:
                seen += 1
                fault(self, NotMade, {"good": lacking[0]}, gain_of, works, one, other)
            else:
                self.assertIs(joint_least(works, one).__class__, JointServed)
                self.assertTrue(gain_of(works, one, other)[0] >= 0)
        self.assertTrue(20 < seen < 75, seen)


class TestFaults(unittest.TestCase):
    def test_goods_that_cannot_be_made(self):
        for works, good in ((BARE, 0), (LACKING, 2), (JointWorks(2, [JointRecipe(ONE, NOTHING, (ONE, ZERO))]), 1)):
            for call in (separate_prices, adds_up, together_pairs, apart_groups):
                fault(self, NotMade, {"good": good}, call, works)

    def test_gain(self):
        works = pair_works(TWO)
        for thing in NO_SEQUENCES + ((), (ONE,), (ONE,) * 3, (ONE, (-1, 2))):
            fault(self, BadWish, {}, gain_of, works, thing, None)
            fault(self, BadWish, {}, gain_of, works, (ONE, ONE), thing)
            fault(self, BadWish, {}, gain_of, BARE, (ONE, ONE), thing)
        for thing in NO_RATIOS:
            fault(self, BadWish, {}, gain_of, works, (ONE, thing), (ONE, ONE))
            fault(self, BadWish, {}, gain_of, works, (ONE, ONE), (ONE, thing))
        fault(self, NotMade, {"good": 3}, gain_of, LACKING, piece(4, 3), piece(4, 2))
        fault(self, NotMade, {"good": 2}, gain_of, LACKING, piece(4, 2, 3), piece(4, 3))
        fault(self, NotMade, {"good": 2}, gain_of, LACKING, piece(4, 0), piece(4, 2, 3))

    def test_asked_twice_and_passed_lists_stay(self):
        draw = Draw(258)
        for _ in range(15):
            works = some_works(draw)
            for call in (separate_prices, adds_up, together_pairs, apart_groups):
                self.assertEqual(call(works), call(works))
            one, other = list(draw.row(works.goods, 0, 2)), list(draw.row(works.goods, 0, 2))
            kept = (list(one), list(other))
            gain_of(works, one, other)
            self.assertEqual((one, other), kept)


if __name__ == "__main__":
    unittest.main()
