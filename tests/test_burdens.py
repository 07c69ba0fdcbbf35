import unittest

from leastlabour.burdens import burdens_fault, fair_burdens
from leastlabour.errors import BadWish, NotMade
from leastlabour.joint import JointRecipe, JointWorks
from leastlabour.jointserve import joint_made
from leastlabour.ratios import ONE, ZERO, minus, plus
from tests.drawing import HALF, NO_RATIOS, NO_SEQUENCES, Draw, fault, frac, fracs, is_plain, lots_of, ratio_kinds
from tests.plainjoint import part_in, plain_corners, worth_at
from tests.test_joint import BARE
from tests.test_jointserve import LACKING
from tests.test_pricerows import THREE, TWO, pair_works, whole_works

FOUR, FIVE = (4, 1), (5, 1)
TRIO = JointWorks(3, [JointRecipe(TWO, (ZERO,) * 3, tuple(ONE if good == other else ZERO for other in range(3)))
                      for good in range(3)] + [JointRecipe(FIVE, (ZERO,) * 3, (ONE,) * 3)])


def wished_works(draw):
    """Drawn joint works and a wish that can be served, and the least labours of its parts by all lots."""
    works = whole_works(draw) if draw.chance(2, 3) else draw.joint_works(zeros=6)
    made = joint_made(works)
    wish = tuple(draw.pick((ZERO, ONE, TWO, draw.ratio(0, 3))) if good in made else ZERO
                 for good in range(works.goods))
    corners = plain_corners(works) if len(made) == works.goods else None
    return works, wish, corners


def plain_word(works, wish, corners, burdens):
    """The word for ratios as burdens."""
    if any(burden[0] < 0 for burden in burdens):
        return "row"
    if sum(fracs(burdens)) != worth_at(corners, fracs(wish)):
        return "sum"
    for lot in lots_of(works.goods):
        if sum(frac(burdens[good]) for good in lot) > worth_at(corners, part_in(fracs(wish), lot)):
            return ("lot", lot)
    return None


class TestFair(unittest.TestCase):
    def test_drawn_works(self):
        draw = Draw(261)
        for _ in range(150):
            works, wish, corners = wished_works(draw)
            told = fair_burdens(works, list(wish))
            self.assertIsInstance(told, tuple)
            self.assertEqual(len(told), works.goods)
            ratio_kinds(self, told)
            self.assertIsNone(burdens_fault(works, wish, told))
            if corners is not None:
                self.assertIsNone(plain_word(works, wish, corners, told))
            self.assertEqual(fair_burdens(works, wish), told)

    def test_wish_of_zeros(self):
        for works in (BARE, LACKING, TRIO):
            zeros = (ZERO,) * works.goods
            self.assertEqual(fair_burdens(works, zeros), zeros)
            self.assertIsNone(burdens_fault(works, zeros, list(zeros)))
            self.assertEqual(burdens_fault(works, zeros, zeros[1:] + (ONE,)), "sum")

    def test_part_of_the_goods_can_be_made(self):
        told = fair_burdens(LACKING, (ONE, TWO, ZERO, ZERO))
        self.assertEqual(sum(fracs(told)), 2)
        self.assertIsNone(burdens_fault(LACKING, (ONE, TWO, ZERO, ZERO), told))

    def test_faults(self):
        for call, more in ((fair_burdens, ()), (burdens_fault, (None,))):
            for thing in NO_SEQUENCES + ((), (ONE,), (ONE,) * 3, (ONE, (-1, 2))):
                fault(self, BadWish, {}, call, pair_works(TWO), thing, *more)
            for thing in NO_RATIOS:
                fault(self, BadWish, {}, call, pair_works(TWO), (thing, ONE), *more)
            fault(self, NotMade, {"good": 2}, call, LACKING, (ZERO, ONE, HALF, ONE), *more)
            fault(self, NotMade, {"good": 3}, call, LACKING, (ONE, ONE, ZERO, ONE), *more)
            fault(self, NotMade, {"good": 0}, call, BARE, (ONE, ONE), *more)


class TestJudge(unittest.TestCase):
    def test_right_burdens(self):
        works, wish = pair_works(TWO), (ONE, ONE)
        for burdens in ((ONE, ONE), [ZERO, TWO], (TWO, ZERO), ((1, 3), (5, 3))):
            self.assertIsNone(burdens_fault(works, wish, burdens))
        works = pair_works(THREE)
        self.assertIsNone(burdens_fault(works, wish, (ONE, TWO)))
        self.assertIsNone(burdens_fault(TRIO, (ONE,) * 3, (TWO, TWO, ONE)))
        self.assertIsNone(burdens_fault(TRIO, (ONE,) * 3, ((5, 3),) * 3))

    def test_words(self):
        works, wish = pair_works(THREE), (ONE, ONE)
        for thing in NO_SEQUENCES + ((), (THREE,), (ONE, ONE, ONE), (FOUR, (-1, 1)), (None, THREE)):
            self.assertEqual(burdens_fault(works, wish, thing), "row")
        for thing in NO_RATIOS:
            self.assertEqual(burdens_fault(works, wish, (thing, THREE)), "row")
        for burdens in ((ONE, ONE), (TWO, TWO), (FIVE, ZERO), (ZERO, ZERO)):
            self.assertEqual(burdens_fault(works, wish, burdens), "sum")
        self.assertEqual(burdens_fault(works, wish, (THREE, ZERO)), ("lot", (0,)))
        self.assertEqual(burdens_fault(works, wish, [HALF, (5, 2)]), ("lot", (1,)))
        # A good of which nothing is wished bears nothing.
        self.assertEqual(burdens_fault(works, (ONE, ZERO), (ONE, ONE)), ("lot", (1,)))
        self.assertEqual(burdens_fault(works, (ONE, ZERO), (TWO, ZERO)), None)
        # Of several lots that bear too much the one of fewer goods, then the first one, is told.
        self.assertEqual(burdens_fault(TRIO, (ONE,) * 3, (FIVE, ZERO, ZERO)), ("lot", (0,)))
        self.assertEqual(burdens_fault(TRIO, (ONE,) * 3, (ZERO, (5, 2), (5, 2))), ("lot", (1,)))
        self.assertEqual(burdens_fault(TRIO, (ONE,) * 3, (ZERO, TWO, THREE)), ("lot", (2,)))

    def test_a_lot_of_two_goods(self):
        # Goods 0 and 1 are made together for 2, each of them alone costs 2 as well, good 2 costs 2.
        works = JointWorks(3, [JointRecipe(TWO, (ZERO,) * 3, (ONE, ONE, ZERO)),
                               JointRecipe(FOUR, (ZERO,) * 3, (ZERO, ONE, ONE)),
                               JointRecipe(FOUR, (ZERO,) * 3, (ZERO, ZERO, ONE))])
        told = burdens_fault(works, (ONE,) * 3, (TWO, ONE, THREE))
        self.assertEqual(told, ("lot", (0, 1)))
        is_plain(self, told[1])
        self.assertEqual(burdens_fault(works, (ONE,) * 3, (TWO, ZERO, FOUR)), None)

    def test_drawn_burdens(self):
        draw = Draw(262)
        seen = {}
        for _ in range(300):
            works, wish, corners = wished_works(draw)
            if corners is None:
                continue
            burdens = list(fair_burdens(works, wish))
            one, other = draw.whole(0, works.goods - 1), draw.whole(0, works.goods - 1)
            size = draw.ratio(0, 1, 3)
            burdens[one] = plus(burdens[one], size)
            if draw.chance(4, 5):
                burdens[other] = minus(burdens[other], size)
            told = burdens_fault(works, wish, burdens)
            self.assertEqual(told, plain_word(works, wish, corners, burdens))
            seen[told] = seen.get(told, 0) + 1
        self.assertTrue(all(seen.get(word, 0) > 10 for word in (None, "row", "sum")), seen)
        self.assertTrue(("lot", (0, 1)) in seen and ("lot", (0,)) in seen, seen)


if __name__ == "__main__":
    unittest.main()
