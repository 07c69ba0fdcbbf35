import unittest

from leastlabour.errors import BadShare
from leastlabour.manners import best_manner
from leastlabour.prices import greatest_prices
from leastlabour.ratios import ONE, ZERO
from leastlabour.shares import Stretch, cuts_of, prices_at, share_list, stretches_fault
from leastlabour.twoworks import TwoRecipe, TwoWorks, at_share
from leastlabour.works import Recipe, Works
from tests.drawing import HALF, NO_SEQUENCES, Draw, back, fault, frac, is_plain, ratio_kinds
from tests.plaintwo import Plain, mix
from tests.test_twoworks import BOTH, NO_SHARES, NONE

TWO, THREE, QUARTER = (2, 1), (3, 1), (1, 4)
# The two lands of [6.12] together.
LANDS = TwoWorks(2, [TwoRecipe(0, ONE, ZERO, (ZERO, ZERO)), TwoRecipe(1, TWO, ZERO, (ZERO, ZERO)),
                     TwoRecipe(0, ZERO, THREE, (ZERO, ZERO)), TwoRecipe(1, ZERO, TWO, (ZERO, ZERO))])
RIGHT = (Stretch(ZERO, QUARTER, (2, 3)), Stretch(QUARTER, HALF, (0, 3)), Stretch(HALF, ONE, (0, 1)))


def one_good(*labours):
    """Works of one good, of recipes that eat nothing."""
    return TwoWorks(1, [TwoRecipe(0, first, second, (ZERO,)) for first, second in labours])


def check_list(case, two, told):
    """Shows a list of stretches right for all shares, against all manners."""
    plain = Plain(two)
    is_plain(case, told)
    case.assertEqual((told[0].low, told[-1].high), (ZERO, ONE))
    case.assertEqual([back(cut) for cut in plain.cuts()], [one.low for one in told[1:]])
    for one, other in zip(told, told[1:]):
        case.assertEqual(one.high, other.low)
        case.assertNotEqual(one.manner, other.manner)
    for stretch in told:
        case.assertIs(stretch.__class__, Stretch)
        is_plain(case, stretch.manner)
        ratio_kinds(case, (stretch.low, stretch.high))
        low, high = frac(stretch.low), frac(stretch.high)
        case.assertTrue(low < high)
        needs = plain.needs[stretch.manner]
        # Straight lines that are the least ones at both ends are so in between.
        for share in (low, high):
            case.assertEqual({good: mix(needs[good], share) for good in needs}, plain.row(share))
        for part in (1, 4, 7):
            share = back(low + (high - low) * part / 8)
            case.assertEqual(best_manner(at_share(two, share)), stretch.manner)
    case.assertIsNone(stretches_fault(two, told))
    return plain


class TestShareList(unittest.TestCase):
    def check(self, two):
        told = share_list(two)
        self.assertIsInstance(told, tuple)
        check_list(self, two, told)
        self.assertEqual(cuts_of(two), tuple(one.low for one in told[1:]))
        self.assertEqual(share_list(two), told)
        return told

    def test_example(self):
        self.assertEqual(self.check(LANDS), RIGHT)
        self.assertEqual(cuts_of(LANDS), (QUARTER, HALF))
        self.check(BOTH)

    def test_without_a_good_that_can_be_made(self):
        self.assertEqual(self.check(NONE), (Stretch(ZERO, ONE, (None, None)),))
        self.assertEqual(cuts_of(NONE), ())
        two = TwoWorks(1, [TwoRecipe(0, ONE, ONE, (ONE,))])
        self.assertEqual(self.check(two), (Stretch(ZERO, ONE, (None,)),))

    def test_recipes_that_are_alike(self):
        self.assertEqual(self.check(one_good((ONE, TWO), (ONE, TWO))), (Stretch(ZERO, ONE, (0,)),))
        self.assertEqual(self.check(one_good((TWO, ONE), (ONE, TWO), (ONE, TWO), (TWO, ONE))),
                         (Stretch(ZERO, HALF, (1,)), Stretch(HALF, ONE, (0,))))

    def test_labours_that_meet_at_the_ends_alone(self):
        # The lesser number is tight at an end, but not within: the other one is best there.
        self.assertEqual(self.check(one_good((ONE, TWO), (ONE, ONE))), (Stretch(ZERO, ONE, (1,)),))
        self.assertEqual(self.check(one_good((TWO, ONE), (ONE, ONE))), (Stretch(ZERO, ONE, (1,)),))
        self.assertEqual(self.check(one_good((ZERO, TWO), (ZERO, ONE))), (Stretch(ZERO, ONE, (1,)),))

    def test_a_recipe_that_touches_at_a_cut_alone(self):
        # Recipe 0 is tight just at 1/2, where the others meet: it has no stretch.
        two = one_good((ONE, ONE), (ZERO, TWO), (TWO, ZERO))
        self.assertEqual(self.check(two), (Stretch(ZERO, HALF, (1,)), Stretch(HALF, ONE, (2,))))
        self.assertEqual(best_manner(at_share(two, HALF)), (0,))
        two = one_good((ZERO, TWO), (TWO, ZERO), ((9, 10), (9, 10)))
        self.assertEqual([one.manner for one in self.check(two)], [(0,), (2,), (1,)])

    def test_two_goods_change_at_one_cut(self):
        two = TwoWorks(2, [TwoRecipe(good, first, second, (ZERO, ZERO)) for good in range(2)
                           for first, second in ((ZERO, ONE), (ONE, ZERO))])
        self.assertEqual(self.check(two), (Stretch(ZERO, HALF, (0, 2)), Stretch(HALF, ONE, (1, 3))))

    def test_a_good_that_eats_another_changes_with_it(self):
        two = TwoWorks(2, [TwoRecipe(0, ZERO, ONE, (ZERO, ZERO)), TwoRecipe(0, ONE, ZERO, (ZERO, ZERO)),
                           TwoRecipe(1, ONE, ONE, (ONE, ZERO)), TwoRecipe(1, TWO, TWO, (ZERO, ZERO))])
        self.check(two)
        self.assertEqual(cuts_of(two), (HALF,))

    def test_no_labour_of_one_kind(self):
        two = TwoWorks(2, [TwoRecipe(0, ZERO, ONE, (ZERO, HALF)), TwoRecipe(1, ZERO, TWO, (HALF, ZERO)),
                           TwoRecipe(1, ZERO, ONE, (ONE, ZERO))])
        self.assertEqual(len(self.check(two)), 1)
        self.assertEqual(prices_at(two, ZERO), (ZERO, ZERO))
        self.assertEqual(len(self.check(two.swapped())), 1)

    def test_drawn_works(self):
        draw = Draw(281)
        sizes = {}
        for _ in range(150):
            told = self.check(draw.two_works(most=9, zeros=draw.pick((6, 8))))
            sizes[len(told)] = sizes.get(len(told), 0) + 1
        self.assertTrue(sizes[1] > 20 and sizes[2] > 20 and sizes[3] > 10, sizes)

    def test_twelve_recipes(self):
        draw = Draw(282)
        for goods in (1, 2, 3, 5):
            two = TwoWorks(goods, [draw.two_recipe(goods, 9) for _ in range(12)])
            self.check(two)

    def test_swapped(self):
        draw = Draw(283)
        for _ in range(40):
            two = draw.two_works(most=9)
            turned = [back(1 - frac(cut)) for cut in reversed(cuts_of(two))]
            self.assertEqual(list(cuts_of(two.swapped())), turned)
            self.assertEqual([one.manner for one in share_list(two.swapped())],
                             [one.manner for one in reversed(share_list(two))])

    def test_many_figures(self):
        long = 10 ** 200
        two = one_good((ZERO, (long, 1)), (ONE, ZERO))
        self.assertEqual(self.check(two), (Stretch(ZERO, (1, long + 1), (0,)), Stretch((1, long + 1), ONE, (1,))))


class TestPricesAt(unittest.TestCase):
    def test_example(self):
        self.assertEqual(prices_at(LANDS, ZERO), (ZERO, ZERO))
        self.assertEqual(prices_at(LANDS, QUARTER), ((3, 4), HALF))
        self.assertEqual(prices_at(LANDS, HALF), (HALF, ONE))
        self.assertEqual(prices_at(LANDS, ONE), (ZERO, ZERO))
        self.assertEqual(prices_at(BOTH, ZERO), (ZERO, HALF, None))
        self.assertEqual(prices_at(NONE, ZERO), (None, None))
        self.assertEqual(prices_at(NONE, HALF), (None, None))

    def test_drawn_works(self):
        draw = Draw(284)
        for _ in range(100):
            two = draw.two_works(most=9, zeros=draw.pick((6, 8)))
            plain = Plain(two)
            for share in [ZERO, ONE, back(frac(draw.ratio(1, 20, 1)) / 21)] + list(cuts_of(two)):
                told = prices_at(two, share)
                self.assertIsInstance(told, tuple)
                row = plain.row(frac(share))
                self.assertEqual([None if price is None else frac(price) for price in told],
                                 [row.get(good) for good in range(two.goods)])
                ratio_kinds(self, [price for price in told if price is not None])
                if share not in (ZERO, ONE):
                    self.assertEqual(told, greatest_prices(at_share(two, share)))

    def test_at_the_ends_it_is_the_greatest_row_that_nothing_undercuts(self):
        draw = Draw(285)
        for _ in range(60):
            two = draw.two_works(most=9, zeros=7)
            for share in (ZERO, ONE):
                row = prices_at(two, share)
                other = [price and back(frac(price) + frac(draw.ratio(-1, 1, 3))) for price in row]
                self.assertTrue(self.is_let(two, row, share))
                if self.is_let(two, other, share):
                    self.assertTrue(all(a is None or frac(b) <= frac(a) for a, b in zip(row, other)))

    def is_let(self, two, row, share):
        for recipe in two:
            eaten = [good for good, many in enumerate(recipe.eats) if many != ZERO]
            if row[recipe.good] is not None and all(row[good] is not None for good in eaten):
                labour = frac(recipe.first if share == ZERO else recipe.second)
                cost = labour + sum(frac(recipe.eats[good]) * frac(row[good]) for good in eaten)
                if cost < frac(row[recipe.good]):
                    return False
        return True

    def test_no_shares(self):
        for thing in NO_SHARES:
            fault(self, BadShare, {}, prices_at, LANDS, thing)


class TestJudge(unittest.TestCase):
    def word(self, *stretches):
        return stretches_fault(LANDS, [Stretch(*things) for things in stretches])

    def test_right(self):
        self.assertIsNone(stretches_fault(LANDS, RIGHT))
        self.assertIsNone(stretches_fault(LANDS, list(RIGHT)))
        self.assertIsNone(stretches_fault(NONE, [Stretch(ZERO, ONE, (None, None))]))

    def test_many(self):
        for thing in NO_SEQUENCES + ((), [], RIGHT + (None,), [RIGHT], (ZERO, ONE, (2, 3)), [(ZERO, ONE, (2, 3))],
                                     (Works(1, [Recipe(0, ONE, (ZERO,))]),)):
            self.assertEqual(stretches_fault(LANDS, thing), "many")

    def test_range(self):
        for thing in NO_SHARES:
            self.assertEqual(self.word((thing, ONE, None)), "range")
            self.assertEqual(self.word((ZERO, thing, None)), "range")
            # Each word is asked of all stretches before the next one.
            self.assertEqual(self.word((HALF, ONE, None), (ZERO, thing, None)), "range")
        for low, high in ((ZERO, ZERO), (HALF, HALF), (HALF, QUARTER), (ONE, ZERO), (ONE, ONE)):
            self.assertEqual(self.word((low, high, (2, 3))), "range")

    def test_joined(self):
        self.assertEqual(self.word((QUARTER, ONE, None)), "joined")
        self.assertEqual(self.word((ZERO, HALF, None)), "joined")
        self.assertEqual(self.word((ZERO, HALF, None), (QUARTER, ONE, None)), "joined")
        self.assertEqual(self.word((ZERO, QUARTER, None), (HALF, ONE, None)), "joined")
        self.assertEqual(self.word((ZERO, ONE, (0, 1)), (ZERO, ONE, (0, 1))), "joined")
        self.assertEqual(self.word((HALF, ONE, (0, 1)), (ZERO, HALF, (2, 3))), "joined")

    def test_manner(self):
        for thing in NO_SEQUENCES + ((), (2,), (2, 3, None), (2, None), (None, None), (3, 2), (4, 3), (True, 1)):
            self.assertEqual(self.word((ZERO, ONE, thing)), "manner")
            self.assertEqual(self.word((ZERO, HALF, (0, 1)), (HALF, ONE, thing)), "manner")
        two = TwoWorks(1, [TwoRecipe(0, ONE, ONE, (ONE,)), TwoRecipe(0, ONE, ONE, (ZERO,))])
        self.assertEqual(stretches_fault(two, [Stretch(ZERO, ONE, (0,))]), "manner")
        self.assertIsNone(stretches_fault(two, [Stretch(ZERO, ONE, (1,))]))
        self.assertEqual(stretches_fault(NONE, [Stretch(ZERO, ONE, (0, None))]), "manner")

    def test_dear(self):
        self.assertEqual(self.word((ZERO, ONE, (0, 3))), "dear")
        self.assertEqual(self.word((ZERO, HALF, (2, 3)), (HALF, ONE, (0, 1))), "dear")
        self.assertEqual(self.word((ZERO, QUARTER, (2, 3)), (QUARTER, ONE, (0, 3))), "dear")
        self.assertEqual(self.word((ZERO, (1, 5), (2, 3)), ((1, 5), HALF, (0, 3)), (HALF, ONE, (0, 1))), "dear")
        self.assertEqual(self.word((ZERO, QUARTER, (2, 3)), (QUARTER, HALF, (0, 3)), (HALF, ONE, (2, 3))), "dear")
        # A recipe that eats what cannot be made never undercuts.
        two = TwoWorks(2, [TwoRecipe(0, TWO, TWO, (ZERO, ZERO)), TwoRecipe(0, ONE, ONE, (ZERO, (1, 9)))])
        self.assertIsNone(stretches_fault(two, [Stretch(ZERO, ONE, (0, None))]))

    def test_least(self):
        two = one_good((TWO, ONE), (ONE, TWO), (ONE, TWO), (TWO, ONE))
        first, last = Stretch(ZERO, HALF, (1,)), Stretch(HALF, ONE, (0,))
        self.assertIsNone(stretches_fault(two, (first, last)))
        self.assertEqual(stretches_fault(two, (Stretch(ZERO, HALF, (2,)), last)), "least")
        self.assertEqual(stretches_fault(two, (first, Stretch(HALF, ONE, (3,)))), "least")
        # A lesser recipe that is tight at one end alone does not count.
        two = one_good((ONE, TWO), (ONE, ONE))
        self.assertIsNone(stretches_fault(two, [Stretch(ZERO, ONE, (1,))]))

    def test_alike(self):
        self.assertEqual(self.word((ZERO, (1, 8), (2, 3)), ((1, 8), QUARTER, (2, 3)), (QUARTER, HALF, (0, 3)),
                                   (HALF, ONE, (0, 1))), "alike")
        self.assertEqual(stretches_fault(NONE, [Stretch(ZERO, HALF, (None, None)), Stretch(HALF, ONE, (None, None))]),
                         "alike")
        two = one_good((ONE, TWO), (ONE, TWO))
        self.assertEqual(stretches_fault(two, [Stretch(ZERO, HALF, (0,)), Stretch(HALF, ONE, (1,))]), "least")

    def test_first_word_of_several(self):
        self.assertEqual(self.word((ZERO, QUARTER, (0, 3)), (QUARTER, HALF, (5, 3)), (HALF, ONE, (0, 1))), "manner")
        self.assertEqual(self.word((ZERO, QUARTER, (5, 3)), (HALF, ONE, (0, 1))), "joined")
        two = one_good((TWO, ONE), (ONE, TWO), (ONE, TWO))
        told = [Stretch(ZERO, QUARTER, (2,)), Stretch(QUARTER, ONE, (2,))]
        self.assertEqual(stretches_fault(two, told), "dear")
        told = [Stretch(ZERO, QUARTER, (2,)), Stretch(QUARTER, HALF, (2,)), Stretch(HALF, ONE, (0,))]
        self.assertEqual(stretches_fault(two, told), "least")

    def test_only_the_list_is_right(self):
        draw = Draw(286)
        seen = {}
        for _ in range(150):
            two = draw.two_works(goods=draw.whole(1, 3), most=8, zeros=8)
            right = share_list(two)
            plain = Plain(two)
            things = [[one.low, one.high, one.manner] for one in right]
            for _ in range(draw.whole(1, 2)):
                at = draw.whole(0, len(things) - 1)
                if draw.chance(1, 3) and at:
                    things[at][0] = things[at - 1][1] = back((frac(things[at][0]) + frac(draw.ratio(0, 1))) / 2)
                elif draw.chance(1, 2):
                    things[at][2] = draw.pick(list(plain.needs))
                else:
                    share = back((frac(things[at][0]) + frac(things[at][1])) / 2)
                    things[at:at + 1] = [[things[at][0], share, things[at][2]], [share] + things[at][1:]]
            told = [Stretch(*parts) for parts in things]
            word = stretches_fault(two, told)
            seen[word] = seen.get(word, 0) + 1
            self.assertEqual(word is None, tuple(told) == right)
        self.assertTrue({None, "dear", "least", "alike"} <= set(seen), seen)

    def test_passed_lists_stay(self):
        told = [Stretch(ZERO, QUARTER, [2, 3]), Stretch(QUARTER, HALF, [0, 3]), Stretch(HALF, ONE, [0, 1])]
        stretches_fault(LANDS, told)
        self.assertEqual([one.manner for one in told], [[2, 3], [0, 3], [0, 1]])


if __name__ == "__main__":
    unittest.main()
