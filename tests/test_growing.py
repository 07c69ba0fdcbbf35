import unittest

from leastlabour.beginnings import holding_weights
from leastlabour.errors import BadPlan, BadStock, BadWish
from leastlabour.growing import Held, Plan, Stopped, growth_plan, plan_fault, play_plan
from leastlabour.ratios import ONE, ZERO
from leastlabour.works import Recipe, Works
from tests.drawing import HALF, NO_RATIOS, NO_SEQUENCES, NO_WHOLES, Draw, fault, frac, fracs, is_plain, ratio_kinds, summed
from tests.plain import loses, plain_made, plain_play
from tests.sums import weights_of_wholes
from tests.test_beginnings import drawn_stock, drawn_works, eating_works, pinch_of, usable
from tests.test_making import EXAMPLE

TWO = (2, 1)
NO_ROWS = NO_SEQUENCES + ((), (ONE,) * 2, (ONE,) * 4, (ONE, ONE, (-1, 2)))


class TestPlay(unittest.TestCase):
    STOCK = (TWO, ZERO, ONE)

    def play(self, starts, turns, stock=STOCK):
        return play_plan(EXAMPLE, stock, Plan(starts, turns))

    def test_uses(self):
        self.assertEqual(self.play((), ()), self.STOCK)
        self.assertEqual(self.play([(2, ONE)], []), (ONE, ONE, ONE))
        self.assertEqual(self.play([[1, ONE], [2, (3, 1)]], []), (ZERO, (3, 1), ZERO))
        self.assertEqual(self.play([(2, TWO), (0, ZERO)], []), (ZERO, TWO, ONE))
        self.assertEqual(self.play([(2, (5, 2))], []), Stopped("start", 0))
        self.assertEqual(self.play([(2, TWO), (0, ONE)], []), Stopped("start", 1))
        # What a use makes is not there for the use itself.
        self.assertEqual(self.play([(0, TWO)], [], (ONE, ZERO, ZERO)), (TWO, ZERO, ZERO))
        self.assertEqual(self.play([(0, (3, 1))], [], (ONE, ZERO, ZERO)), Stopped("start", 0))

    def test_turns(self):
        self.assertEqual(self.play([], [((ZERO, ZERO, ONE), 2)]), (ZERO, TWO, ONE))
        self.assertEqual(self.play([], [((ZERO, ZERO, ONE), 3)]), Stopped("turn", 0))
        self.assertEqual(self.play([], [[[ONE, ZERO, ONE], 1], ((ONE, ZERO, ONE), 1)]), (ONE, TWO, ONE))
        self.assertEqual(self.play([], [((ONE, ZERO, ONE), 2)]), (ONE, TWO, ONE))
        self.assertEqual(self.play([], [((ONE, ZERO, ONE), 3)]), Stopped("turn", 0))
        self.assertEqual(self.play([(2, ONE)], [((ZERO, ONE, ZERO), 1), ((ZERO, ONE, ZERO), 1)]), Stopped("turn", 1))
        self.assertEqual(self.play([(2, ONE), (2, TWO)], [((ZERO, TWO, ZERO), 1)]), Stopped("start", 1))

    def test_many_times(self):
        many = 10 ** 250
        self.assertEqual(self.play([], [((TWO, ZERO, ZERO), many)]), ((2 + many, 1), ZERO, ONE))
        self.assertEqual(self.play([], [((ONE, ZERO, ONE), many)]), Stopped("turn", 0))
        self.assertEqual(self.play([], [((ZERO, (1, many), ZERO), many)]), ((3, 1), ZERO, ZERO))
        self.assertEqual(self.play([], [((ZERO, (1, many), ZERO), many + 1)]), Stopped("turn", 0))
        self.assertEqual(self.play([], [((ZERO, ZERO, ZERO), many)]), self.STOCK)

    def test_drawn(self):
        draw = Draw(71)
        kinds = {"start": 0, "turn": 0, "end": 0}
        for _ in range(300):
            works = drawn_works(draw)
            stock = draw.row(works.goods, 0, 9, 1)
            starts = [(draw.whole(0, len(works) - 1), draw.ratio(0, 1)) for _ in range(draw.whole(0, 3) if len(works) else 0)]
            turns = [(draw.row(len(works), 0, 1, 4), draw.whole(1, 6)) for _ in range(draw.whole(0, 3))]
            plan = Plan(starts, turns)
            told, wanted = play_plan(works, list(stock), plan), plain_play(works, stock, plan)
            if isinstance(wanted, tuple):
                self.assertEqual(told, Stopped(*wanted))
                kinds[wanted[0]] += 1
            else:
                self.assertIsInstance(told, tuple)
                ratio_kinds(self, told)
                self.assertEqual(fracs(told), wanted)
                kinds["end"] += 1
        self.assertTrue(min(kinds.values()) > 20, kinds)

    def test_faults(self):
        for thing in NO_ROWS:
            fault(self, BadStock, {}, play_plan, EXAMPLE, thing, Plan(None, None))
        for thing in NO_RATIOS:
            fault(self, BadStock, {}, play_plan, EXAMPLE, (ONE, ONE, thing), Plan(None, None))

    def bad(self, index, what, starts, turns):
        told = {"index": index, "what": what}
        fault(self, BadPlan, told, play_plan, EXAMPLE, self.STOCK, Plan(starts, turns))
        self.assertEqual(plan_fault(EXAMPLE, self.STOCK, (ZERO,) * 3, Plan(starts, turns)), "plan")

    def test_faults_of_plans(self):
        for thing in NO_SEQUENCES:
            self.bad(0, "starts", thing, thing)
            self.bad(0, "turns", (), thing)
            self.bad(0, "turns", ((2, ONE),), thing)
            self.bad(1, "start", [(2, ONE), thing], None)
            self.bad(1, "turn", [], [((ZERO,) * 3, 1), thing])
        for thing in NO_WHOLES + (3, -1):
            self.bad(0, "start", [(thing, ONE)], None)
        for thing in NO_RATIOS + ((-1, 2),):
            self.bad(0, "start", [(2, thing)], None)
            self.bad(0, "turn", (), [((ONE, ONE, thing), 1)])
        self.bad(0, "start", [(2,)], None)
        self.bad(0, "start", [(2, ONE, ONE)], None)
        self.bad(2, "start", [(2, (99, 1)), (2, ONE), ()], None)
        for thing in NO_ROWS:
            self.bad(0, "turn", (), [(thing, 1)])
        for thing in NO_WHOLES + (0, -1):
            self.bad(0, "turn", (), [((ZERO,) * 3, thing)])
        self.bad(0, "turn", (), [((ZERO,) * 3,)])
        self.bad(0, "turn", (), [((ZERO,) * 3, 1, 1)])
        # All entries are checked before the first one is played.
        self.bad(1, "turn", [(2, (99, 1))], [((ONE,) * 3, 9), ()])


class TestGrowthPlan(unittest.TestCase):
    def check(self, works, stock, wish):
        told = growth_plan(works, stock, wish)
        numbers = usable(works, pinch_of(stock))
        grown = plain_made(works, (), numbers)
        if set(pinch_of(wish)) <= set(grown):
            self.assertIs(told.__class__, Plan)
            self.assertTrue(len(told.starts) <= 60 and len(told.turns) <= 60)
            is_plain(self, (told.starts, told.turns))
            behind = play_plan(works, stock, told)
            self.assertIsInstance(behind, tuple)
            self.assertTrue(all(has >= asked for has, asked in zip(fracs(behind), fracs(wish))))
            self.assertIsNone(plan_fault(works, stock, wish, told))
            if sum(many for _, many in told.turns) <= 40:
                self.assertEqual(plain_play(works, stock, told), fracs(behind))
        else:
            self.assertIs(told.__class__, Held)
            weights_of_wholes(self, told.weights, works.goods)
            above = tuple(good for good, weight in enumerate(told.weights) if weight)
            self.assertEqual(above, tuple(good for good in range(works.goods) if good not in grown))
            self.assertFalse(loses(works, told.weights, numbers))
            self.assertTrue(summed(fracs(wish), told.weights) > 0)
        return told

    def test_example(self):
        self.check(EXAMPLE, ((1, 100), ZERO, ZERO), ((50, 1), (70, 1), ZERO))
        self.check(EXAMPLE, (ZERO, ZERO, (1, 100)), ((50, 1), (70, 1), ZERO))
        self.assertIs(self.check(EXAMPLE, (ZERO, ZERO, ONE), (ZERO, ZERO, ONE)).__class__, Held)
        self.assertIs(self.check(EXAMPLE, (ONE, ONE, ZERO), (ZERO, ZERO, ONE)).__class__, Held)
        self.assertIs(self.check(EXAMPLE, (ZERO, ONE, ZERO), (ONE, ZERO, ZERO)).__class__, Held)
        # It is held also where the stock has the wish.
        self.assertIs(self.check(EXAMPLE, (ZERO, (9, 1), ZERO), (ZERO, ONE, ZERO)).__class__, Held)

    def test_wishes_and_stocks_of_zero(self):
        self.check(EXAMPLE, (ZERO,) * 3, (ZERO,) * 3)
        self.check(EXAMPLE, (ONE, ONE, ONE), (ZERO,) * 3)
        self.check(EXAMPLE, (ONE, ONE, ONE), (ONE, ONE, ZERO))
        self.check(Works(2, ()), (ZERO, ZERO), (ZERO, ZERO))
        self.check(Works(2, ()), (ONE, ONE), (ZERO, ONE))
        alone = Works(2, [Recipe(0, ONE, (ZERO, ZERO)), Recipe(1, ONE, (ONE, HALF))])
        self.assertIs(self.check(alone, (ZERO, ZERO), ((7, 3), ZERO)).__class__, Plan)
        self.assertIs(self.check(alone, (ZERO, ZERO), (ZERO, ONE)).__class__, Held)
        self.assertIs(self.check(alone, (ZERO, (1, 9)), (ZERO, (500, 1))).__class__, Plan)

    def test_amounts_of_many_figures(self):
        long = 10 ** 250
        slow = Works(2, [Recipe(0, ONE, ((long - 1, long), ZERO)), Recipe(1, ONE, (ONE, ZERO))])
        told = self.check(slow, ((1, long), ZERO), ((long, 1), (long, 7)))
        self.assertTrue(max(many for _, many in told.turns) > 10 ** 200)

    def test_slow_chains_of_goods(self):
        recipes = [Recipe(good, ONE, [(1, 2) if other == good - 1 else ZERO for other in range(5)]) for good in range(1, 5)]
        ring = Works(5, recipes + [Recipe(0, ONE, (ZERO, ZERO, ZERO, ZERO, (3, 2)))])
        for good in range(5):
            stock = tuple((1, 1000) if other == good else ZERO for other in range(5))
            self.check(ring, stock, ((9, 1),) * 5)

    def test_drawn_works(self):
        draw = Draw(72)
        kinds = {Plan: 0, Held: 0}
        for _ in range(300):
            works = eating_works(draw) if draw.chance(1, 2) else drawn_works(draw)
            stock = drawn_stock(draw, works)
            wish = draw.row(works.goods, 0, 30, 6)
            kinds[self.check(works, list(stock), list(wish)).__class__] += 1
        self.assertTrue(min(kinds.values()) > 50, kinds)

    def test_weights_are_those_of_holding_weights(self):
        stock = (ZERO, ONE, ZERO)
        weights = growth_plan(EXAMPLE, stock, (ONE, ZERO, ZERO)).weights
        self.assertFalse(loses(EXAMPLE, weights, usable(EXAMPLE, (1,))))
        self.assertEqual([weight > 0 for weight in weights],
                         [weight > 0 for weight in holding_weights(EXAMPLE, (1,))])

    def test_faults(self):
        for call, more in ((growth_plan, ()), (plan_fault, (Plan(None, None),))):
            for thing in NO_ROWS:
                fault(self, BadStock, {}, call, EXAMPLE, thing, None, *more)
                fault(self, BadWish, {}, call, EXAMPLE, (ONE,) * 3, thing, *more)
            for thing in NO_RATIOS:
                fault(self, BadStock, {}, call, EXAMPLE, (ONE, ONE, thing), None, *more)
                fault(self, BadWish, {}, call, EXAMPLE, (ONE,) * 3, (ONE, ONE, thing), *more)


class TestJudge(unittest.TestCase):
    def judged(self, wish, starts, turns):
        return plan_fault(EXAMPLE, [ONE, ZERO, ZERO], wish, Plan(starts, turns))

    def test_words(self):
        self.assertIsNone(self.judged([ONE, ZERO, ZERO], [], []))
        self.assertIsNone(self.judged((TWO, ZERO, ZERO), [(0, TWO)], []))
        self.assertIsNone(self.judged(((3, 2), HALF, ZERO), ((0, TWO), (2, HALF)), ()))
        self.assertEqual(self.judged((ZERO,) * 3, None, []), "plan")
        self.assertEqual(self.judged((ZERO,) * 3, [(0, (9, 1))], [None]), "plan")
        self.assertEqual(self.judged((TWO, ZERO, ZERO), [(0, (9, 1))], []), "stopped")
        self.assertEqual(self.judged((ZERO,) * 3, [], [((ZERO, ZERO, ONE), 2)]), "stopped")
        self.assertEqual(self.judged((TWO, ZERO, ZERO), [(0, ONE)], []), "short")
        self.assertEqual(self.judged((ZERO, ZERO, (1, 10 ** 200)), [], []), "short")

    def test_entries_are_not_counted(self):
        self.assertIsNone(self.judged((ONE, ZERO, ZERO), [(0, ZERO)] * 70, [((ZERO,) * 3, 1)] * 70))

    def test_spoilt_plans(self):
        draw = Draw(73)
        seen = 0
        for _ in range(100):
            works = eating_works(draw)
            stock, wish = drawn_stock(draw, works), draw.row(works.goods, 0, 30, 4)
            told = growth_plan(works, stock, wish)
            if isinstance(told, Held) or not told.turns:
                continue
            seen += 1
            (amounts, many), = told.turns
            behind = play_plan(works, stock, told)
            more = [(10 ** 6 * top, bottom) for top, bottom in behind]
            if any(has[0] and frac(has) * 10 ** 6 > frac(has) for has in behind):
                self.assertEqual(plan_fault(works, stock, [ratio(one) for one in more], told), "short")
            great = [ratio((10 ** 9 * top, bottom)) for top, bottom in amounts]
            self.assertEqual(plan_fault(works, stock, wish, Plan(told.starts, ((great, many),))), "stopped")
            self.assertEqual(plan_fault(works, stock, wish, Plan(told.starts, ((amounts, 0),))), "plan")
        self.assertTrue(seen > 15, seen)

    def test_results(self):
        for kind, names in ((Plan, ("starts", "turns")), (Stopped, ("where", "index")), (Held, ("weights",))):
            things = [[1], [2]][:len(names)]
            told = kind(*things)
            for at, name in enumerate(names):
                self.assertIs(getattr(told, name), things[at])
                other = list(things)
                other[at] = [3]
                self.assertFalse(told == kind(*other))
            self.assertTrue(told == kind(*things))
            self.assertFalse(told == tuple(things))
        self.assertFalse(Plan(1, 2) == Stopped(1, 2))
        self.assertFalse(Stopped(1, 2) == Plan(1, 2))
        self.assertFalse(Held(1) == Plan(1, 2))

    def test_passed_lists_stay(self):
        stock, wish, starts, turns = [ONE, ZERO, ZERO], [ONE, ZERO, ZERO], [[2, HALF]], [[[ZERO] * 3, 2]]
        plan = Plan(starts, turns)
        play_plan(EXAMPLE, stock, plan), growth_plan(EXAMPLE, stock, wish), plan_fault(EXAMPLE, stock, wish, plan)
        self.assertEqual((stock, wish), ([ONE, ZERO, ZERO], [ONE, ZERO, ZERO]))
        self.assertEqual((starts, turns), ([[2, HALF]], [[[ZERO] * 3, 2]]))


def ratio(one):
    whole = frac(one)
    return (whole.numerator, whole.denominator)


if __name__ == "__main__":
    unittest.main()
