import unittest

from leastlabour.errors import BadWish, NoGood, NotMade
from leastlabour.joint import JointRecipe, JointWorks, as_joint
from leastlabour.jointserve import joint_least, joint_made
from leastlabour.prices import greatest_prices
from leastlabour.pricerows import PriceRow, price_rows, span_at
from leastlabour.ratios import ONE, ZERO
from leastlabour.tasks import Found, find_from
from tests.drawing import (HALF, NO_RATIOS, NO_SEQUENCES, NO_WHOLES, Draw, back, fault, frac, fracs, is_plain,
                           ratio_kinds, summed)
from tests.plainjoint import is_let_row, plain_corners, worth_at
from tests.sums import numbers_meet
from tests.test_joint import BARE, SHEEP
from tests.test_jointserve import LACKING

TWO, THREE = (2, 1), (3, 1)
NOTHING = (ZERO, ZERO)


def pair_works(labour):
    """The works of [5.12] with this labour of the recipe that makes both goods."""
    return JointWorks(2, [JointRecipe(TWO, NOTHING, (ONE, ZERO)), JointRecipe(TWO, NOTHING, (ZERO, ONE)),
                          JointRecipe(labour, NOTHING, (ONE, ONE))])


def whole_works(draw, goods=None, most=6):
    """Drawn joint works of which all goods can be made."""
    while True:
        works = draw.joint_works(goods, most, draw.pick((8, 9)))
        if joint_made(works) == tuple(range(works.goods)):
            return works


def check_rows(case, works, rows):
    """Shows a list of price rows right: let, ascending, each needed, and enough for every wish."""
    is_plain(case, rows)
    case.assertTrue(len(rows) >= 1)
    told = [fracs(row.prices) for row in rows]
    case.assertEqual(told, sorted(told))
    for row in rows:
        case.assertIs(row.__class__, PriceRow)
        is_plain(case, row.prices)
        is_plain(case, row.wish)
        ratio_kinds(case, row.prices + row.wish)
        case.assertEqual((len(row.prices), len(row.wish)), (works.goods, works.goods))
        case.assertTrue(all(many[0] >= 0 for many in row.wish))
        case.assertTrue(is_let_row(works, fracs(row.prices)))
        own = summed(fracs(row.prices), fracs(row.wish))
        case.assertTrue(all(summed(other, fracs(row.wish)) < own for other in told if other != fracs(row.prices)))
    for one in told:
        case.assertFalse(any(one != other and all(a <= b for a, b in zip(one, other)) for other in told))
    # Each corner of the let prices is, good by good, at most a mixture of rows of the list: no wish needs more.
    for corner in plain_corners(works):
        least = [back(price) for price in corner] + [(1, 1), (-1, 1)]
        tasks = [[back(row[good]) for row in told] for good in range(works.goods)]
        tasks += [[ONE] * len(told), [(-1, 1)] * len(told)]
        found = find_from(tasks, least)
        case.assertIs(found.__class__, Found)
        numbers_meet(case, tasks, least, found.numbers)


class TestPriceRows(unittest.TestCase):
    def check(self, works):
        rows = price_rows(works)
        self.assertIsInstance(rows, tuple)
        check_rows(self, works, rows)
        return [row.prices for row in rows]

    def test_examples(self):
        self.assertEqual(self.check(pair_works(TWO)), [(ZERO, TWO), (TWO, ZERO)])
        self.assertEqual(self.check(pair_works(THREE)), [(ONE, TWO), (TWO, ONE)])
        self.assertEqual(self.check(pair_works((4, 1))), [(TWO, TWO)])
        self.assertEqual(self.check(pair_works((5, 1))), [(TWO, TWO)])
        self.assertEqual(self.check(pair_works(ONE)), [(ZERO, ONE), (ONE, ZERO)])
        self.check(SHEEP)

    def test_one_good(self):
        works = JointWorks(1, [JointRecipe(THREE, (HALF,), (TWO,)), JointRecipe(ONE, (ONE,), (ONE,)),
                               JointRecipe(THREE, (ZERO,), (ONE,))])
        self.assertEqual(self.check(works), [(TWO,)])

    def test_compared_by_value(self):
        # As tuples (1, 3) is below (1, 2) and (10, 3) below (3, 2); by value it is the other way round.
        works = JointWorks(2, [JointRecipe((10, 3), NOTHING, (ONE, ZERO)), JointRecipe((10, 3), NOTHING, (ZERO, ONE)),
                               JointRecipe((29, 6), NOTHING, (ONE, ONE))])
        self.assertEqual(self.check(works), [((3, 2), (10, 3)), ((10, 3), (3, 2))])

    def test_a_recipe_that_makes_all_goods(self):
        for goods in range(1, 6):
            works = JointWorks(goods, [JointRecipe(ONE, (ZERO,) * goods, (ONE,) * goods)])
            wanted = sorted(tuple(ONE if good == other else ZERO for other in range(goods)) for good in range(goods))
            self.assertEqual(self.check(works), wanted)

    def test_a_corner_that_no_wish_needs(self):
        # The recipes 0 to 2 are tight at (1, 1/10, 1/10) and leave, one or the other, each good; but they cannot
        # leave some of goods 1 and 2 at once: with more of both prices the row is let, too.
        nets = ((1, 1, -3), (1, -3, 1), (1, -1, -2), (0, 1, 0), (0, 0, 1))
        recipes = [JointRecipe(labour, [(max(-one, 0), 1) for one in net], [(max(one, 0), 1) for one in net])
                   for labour, net in zip(((4, 5), (4, 5), (7, 10), (5, 1), (5, 1)), nets)]
        works = JointWorks(3, recipes)
        corner = (ONE, (1, 10), (1, 10))
        self.assertIn(tuple(fracs(corner)), plain_corners(works))
        self.assertNotIn(corner, self.check(works))

    def test_recipes_that_eat_more_than_they_make(self):
        works = JointWorks(2, [JointRecipe(ONE, NOTHING, (ONE, ZERO)), JointRecipe(ONE, (THREE, ZERO), (ZERO, ONE))])
        self.assertEqual(self.check(works), [(ONE, (4, 1))])

    def test_drawn_works(self):
        draw = Draw(241)
        sizes = {}
        for _ in range(150):
            rows = self.check(whole_works(draw))
            sizes[len(rows)] = sizes.get(len(rows), 0) + 1
        self.assertTrue(sizes[1] > 20 and sizes[2] > 20 and len(sizes) > 3, sizes)

    def test_least_labour_is_the_greatest_worth(self):
        draw = Draw(242)
        for _ in range(80):
            works = whole_works(draw)
            rows, corners = price_rows(works), plain_corners(works)
            for _ in range(4):
                wish = draw.row(works.goods, 0, 4, 4)
                worth = max(summed(fracs(row.prices), fracs(wish)) for row in rows)
                self.assertEqual(worth, worth_at(corners, fracs(wish)))
                self.assertEqual(worth, frac(joint_least(works, wish).labour))

    def test_five_goods_and_eight_recipes(self):
        draw = Draw(243)
        recipes = [JointRecipe(draw.ratio(2, 6, 1), (ZERO,) * 5, draw.row(5, 0, 3, 4)) for _ in range(7)]
        works = JointWorks(5, recipes + [JointRecipe((9, 1), (ZERO,) * 5, (ONE,) * 5)])
        rows = price_rows(works)
        told = [fracs(row.prices) for row in rows]
        self.assertTrue(len(rows) > 5)
        for row in rows:
            self.assertTrue(is_let_row(works, fracs(row.prices)))
            own = summed(fracs(row.prices), fracs(row.wish))
            self.assertEqual(own, frac(joint_least(works, row.wish).labour))
            self.assertEqual(sum(summed(other, fracs(row.wish)) >= own for other in told), 1)
        for _ in range(40):
            wish = draw.row(5, 0, 5, 4)
            self.assertEqual(max(summed(other, fracs(wish)) for other in told), frac(joint_least(works, wish).labour))

    def test_plain_works(self):
        draw = Draw(244)
        seen = 0
        while seen < 20:
            works = draw.works(most=8, zeros=8)
            row = greatest_prices(works)
            if None not in row:
                seen += 1
                self.assertEqual(self.check(as_joint(works)), [row])

    def test_asked_twice(self):
        draw = Draw(245)
        for _ in range(20):
            works = whole_works(draw)
            self.assertEqual(price_rows(works), price_rows(JointWorks(works.goods, list(works.recipes))))

    def test_goods_that_cannot_be_made(self):
        for works, good in ((BARE, 0), (LACKING, 2), (JointWorks(1, [JointRecipe(ONE, (ONE,), (ONE,))]), 0)):
            fault(self, NotMade, {"good": good}, price_rows, works)
            fault(self, NotMade, {"good": good}, span_at, works, None, None)


class TestSpan(unittest.TestCase):
    def test_examples(self):
        works = pair_works(TWO)
        self.assertEqual(span_at(works, (ONE, ONE), 0), (ZERO, TWO))
        self.assertEqual(span_at(works, [ONE, ONE], 1), (ZERO, TWO))
        self.assertEqual(span_at(works, (ONE, TWO), 0), (ZERO, ZERO))
        self.assertEqual(span_at(works, (TWO, ONE), 0), (TWO, TWO))
        self.assertEqual(span_at(works, (ZERO, ZERO), 0), (None, TWO))
        self.assertEqual(span_at(works, (ZERO, ONE), 0), (None, ZERO))
        self.assertEqual(span_at(works, (ZERO, ONE), 1), (TWO, TWO))
        self.assertEqual(span_at(pair_works(THREE), (ONE, ONE), 0), (ONE, TWO))

    def test_rises_and_falls(self):
        draw = Draw(246)
        broad = 0
        for _ in range(120):
            works = whole_works(draw)
            corners = plain_corners(works)
            # Wishes of few numbers, so that several rows are often worth the same.
            wish = tuple(draw.pick((ZERO, ONE, ONE, TWO)) for _ in range(works.goods))
            good = draw.whole(0, works.goods - 1)
            told = span_at(works, list(wish), good)
            self.assertIsInstance(told, tuple)
            less, more = told
            cost = worth_at(corners, fracs(wish))
            for size in (frac((1, 10 ** 9)), frac((1, 10 ** 12))):
                self.assertEqual(self.cost(corners, wish, good, size) - cost, frac(more) * size)
                if wish[good] != ZERO:
                    self.assertEqual(cost - self.cost(corners, wish, good, -size), frac(less) * size)
            for _ in range(3):
                size = frac(draw.ratio(0, 9))
                self.assertTrue(self.cost(corners, wish, good, size) - cost >= frac(more) * size)
            self.assertEqual(less is None, wish[good] == ZERO)
            broad += less is not None and less != more
        self.assertTrue(broad > 8, broad)

    def cost(self, corners, wish, good, rise):
        changed = fracs(wish)
        changed[good] += rise
        return worth_at(corners, changed)

    def test_faults(self):
        works = pair_works(TWO)
        for thing in NO_SEQUENCES + ((), (ONE,), (ONE,) * 3, (ONE, (-1, 2))):
            fault(self, BadWish, {}, span_at, works, thing, None)
        for thing in NO_RATIOS:
            fault(self, BadWish, {}, span_at, works, (ONE, thing), 0)
        for thing in NO_WHOLES + (2, -1):
            fault(self, NoGood, {"good": thing}, span_at, works, (ONE, ONE), thing)


if __name__ == "__main__":
    unittest.main()
