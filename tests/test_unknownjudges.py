import unittest

from leastlabour.bounds import Bound, greatest_ratio, ratio_tasks, regret, regret_tasks
from leastlabour.claims import Both, Never, Sure, claim_tasks, decide
from leastlabour.errors import (BadClaim, BadFact, BadManner, BadWish, CannotMake, NoGood, NoLabours, NotMade)
from leastlabour.ratios import ONE, ZERO
from leastlabour.tasks import Barred, Least, least_cost
from leastlabour.unknownjudges import decided_fault, ratio_fault, regret_fault
from leastlabour.works import Works
from tests.drawing import HALF, NO_RATIOS, NO_SEQUENCES, NO_WHOLES, Draw, back, fault, frac
from tests.plain import plain_made
from tests.plainbounds import Quotients
from tests.plainfacts import PlainPrices, keeps, plain_able
from tests.test_bounds import REGRETS, drawn_case, drawn_wish
from tests.test_claims import drawn_claim
from tests.test_making import EXAMPLE
from tests.test_ownrows import MIXED
from tests.test_parts import WAYS
from tests.test_unknown import CLASHING

TWO, THREE = (2, 1), (3, 1)
NO_LABOURS = NO_SEQUENCES + ((), (ONE,) * 2, (ONE,) * 4, (ONE, 1, ONE), (ONE, (-1, 2), ONE))


class TestDecided(unittest.TestCase):
    FACTS = [(0, TWO, 1)]
    SURE = ("above", 0, ONE, 1)
    BOTH = ("above", 0, THREE, 1)
    NEVER = ("least", 1, ONE, 0)

    def test_right_answers(self):
        draw = Draw(811)
        kinds = {}
        for _ in range(120):
            works, facts, _ = drawn_case(draw)
            claim = drawn_claim(draw, works)
            if claim is None:
                continue
            told = decide(works, facts, claim)
            self.assertIsNone(decided_fault(works, facts, claim, told))
            kinds[told.__class__] = kinds.get(told.__class__, 0) + 1
            if told.__class__ is Both:
                continue
            # Papers as lists are as good, and those of the other answer are none.
            self.assertIsNone(decided_fault(works, facts, claim, told.__class__([list(one) for one in told.papers])))
            turned = (Never if told.__class__ is Sure else Sure)(told.papers)
            self.assertIn(decided_fault(works, facts, claim, turned), ("papers", "weights"))
        self.assertTrue(len(kinds) == 3 and min(kinds.values()) > 20, kinds)

    def test_labours_that_show_both(self):
        draw = Draw(812)
        seen = {}
        for _ in range(120):
            works, facts, kept = drawn_case(draw)
            claim = drawn_claim(draw, works)
            if claim is None:
                continue
            prices = PlainPrices(works)
            answer = decide(works, facts, claim)
            shown = (answer.yes, answer.no) if answer.__class__ is Both else (kept, kept)
            one, other = (draw.pick(shown + (kept, draw.labours(len(works)))) for _ in range(2))
            told = decided_fault(works, [list(fact) for fact in facts], claim, Both(list(one), other))
            yes = keeps(facts, one) and prices.is_true(one, claim)
            no = keeps(facts, other) and not prices.is_true(other, claim)
            self.assertEqual(told, "yes" if not yes else "no" if not no else None)
            seen[told] = seen.get(told, 0) + 1
        self.assertTrue(len(seen) == 3 and min(seen.values()) > 5, seen)

    def test_words(self):
        def judge(told, claim=self.SURE):
            return decided_fault(WAYS, self.FACTS, claim, told)

        right = decide(WAYS, self.FACTS, self.SURE)
        for thing in (None, True, "Sure", right.papers, Barred(right.papers), Bound(ONE, (ONE,) * 3, ()), [right]):
            self.assertEqual(judge(thing), "answer")
        papers = right.papers
        self.assertEqual(len(papers), 2)
        self.assertIsNone(judge(right))
        for thing in NO_SEQUENCES + ((), papers[:1], papers + papers[:1]):
            self.assertEqual(judge(Sure(thing)), "papers")
            self.assertEqual(judge(Never(thing)), "papers")
        task = claim_tasks(WAYS, self.FACTS, self.SURE, False)[0]
        many = len(task[0])
        wrong = (None, 5, (), papers[0][:-1], papers[0] + (0,), (0,) * many, (1,) * many,
                 tuple(2 * one for one in papers[0]), tuple(-one for one in papers[0]),
                 tuple((one, 1) for one in papers[0]), (True,) + papers[0][1:])
        for thing in wrong:
            self.assertEqual(judge(Sure((thing, papers[1]))), "weights", thing)
            self.assertEqual(judge(Sure([papers[0], thing])), "weights")
            self.assertEqual(judge(Sure([thing, thing])), "weights")
        for thing in NO_LABOURS + ((ZERO, ONE, ONE), (ONE, TWO, ONE), (TWO, ONE, ONE), (THREE, ONE, ONE)):
            self.assertEqual(judge(Both(thing, thing), self.BOTH), "yes", thing)
            self.assertEqual(judge(Both(thing, (TWO, ONE, ONE)), self.BOTH), "yes")
        good = ((4, 1), ONE, (4, 1))
        for thing in NO_LABOURS + ((ZERO, ONE, ONE), (ONE, TWO, ONE), good, [(7, 2), ONE, (9, 1)]):
            self.assertEqual(judge(Both(good, thing), self.BOTH), "no", thing)
        self.assertIsNone(judge(Both(list(good), [TWO, ONE, ONE]), self.BOTH))
        # Labours that break a fact, though the claim is true there, and is not true there.
        self.assertEqual(decided_fault(WAYS, [(0, (5, 1), 1)], self.BOTH, Both(good, good)), "yes")
        self.assertEqual(decided_fault(WAYS, [(0, ONE, 1)], self.BOTH, Both(good, (HALF, ONE, ONE))), "no")
        # A claim that is true at all labours has no others.
        self.assertEqual(judge(Both(good, good)), "no")
        self.assertEqual(judge(Both(good, good), self.NEVER), "yes")
        self.assertIsNone(judge(decide(WAYS, self.FACTS, self.NEVER), self.NEVER))

    def test_no_papers_are_right_where_there_is_no_task(self):
        claim = ("used", 1)
        self.assertEqual(decide(EXAMPLE, (), claim), Never(()))
        self.assertIsNone(decided_fault(EXAMPLE, (), claim, Never([])))
        self.assertEqual(decided_fault(EXAMPLE, (), claim, Never(((1,),))), "papers")
        self.assertEqual(decided_fault(EXAMPLE, (), claim, Sure(())), "papers")
        self.assertEqual(decided_fault(EXAMPLE, (), claim, Sure(((1,),))), "weights")

    def test_faults_in_order(self):
        fault(self, BadFact, {"index": 0, "what": "many"}, decided_fault, WAYS, None, None, None)
        fault(self, BadFact, {"index": 0, "what": "ratio"}, decided_fault, WAYS, [(0, 1, 0)], None, None)
        fault(self, BadClaim, {"what": "claim"}, decided_fault, WAYS, CLASHING, None, None)
        fault(self, BadClaim, {"what": "good"}, decided_fault, WAYS, CLASHING, ("above", 2, ONE, 0), None)
        fault(self, BadClaim, {"what": "recipe"}, decided_fault, WAYS, CLASHING, ("used", 3), None)
        fault(self, NotMade, {"good": 2}, decided_fault, EXAMPLE, CLASHING, ("above", 0, ONE, 2), None)
        fault(self, NoLabours, {}, decided_fault, WAYS, CLASHING, ("used", 0), None)


class BoundJudge(unittest.TestCase):
    def check_words(self, judge, told, tasks, higher):
        """All words of the list for a bound that is a ratio; `higher` are labours that do not reach it."""
        for thing in (None, 1, "Bound", (told.most, told.labours, told.papers), Sure(told.papers)):
            self.assertEqual(judge(thing), "bound")
        for thing in NO_RATIOS:
            if thing is not None:
                self.assertEqual(judge(Bound(thing, None, None)), "most")
        for thing in NO_LABOURS:
            self.assertEqual(judge(Bound(told.most, thing, None)), "labours")
        zeros = (ZERO,) * len(told.labours)
        for most, labours in ((told.most, higher), (told.most, zeros), (None, told.labours), (None, zeros),
                              (back(frac(told.most) + 1), told.labours), ((-1, 1), told.labours),
                              (ZERO, told.labours)):
            self.assertEqual(judge(Bound(most, labours, None)), "reached")
        for thing in NO_SEQUENCES + ((), told.papers[:-1], told.papers + told.papers[:1]):
            self.assertEqual(judge(Bound(told.most, told.labours, thing)), "papers")
        for at, weights in enumerate(told.papers):
            rows, least, costs = tasks[at]
            great = tuple(back(frac(one) + 1000) for one in weights)
            for thing in (None, 3, (), weights[:-1], weights + (ZERO,), tuple(1 for _ in weights),
                          (True,) * len(weights), tuple((-1, 1) for _ in weights), great):
                papers = list(told.papers)
                papers[at] = thing
                self.assertEqual(judge(Bound(told.most, told.labours, papers)), "weights", thing)
        self.assertIsNone(judge(told))
        self.assertIsNone(judge(Bound(told.most, list(told.labours), [list(one) for one in told.papers])))


class TestRatioFault(BoundJudge):
    def test_words(self):
        facts = [(0, TWO, 1)]
        told = greatest_ratio(WAYS, facts, 1, 0)
        self.assertEqual(told.most, HALF)
        self.check_words(lambda one: ratio_fault(WAYS, facts, 1, 0, one), told, ratio_tasks(WAYS, facts, 1, 0),
                         (THREE, ONE, THREE))
        # Labours that break the fact, though the prices stand so there.
        self.assertEqual(ratio_fault(WAYS, [(0, THREE, 1)], 1, 0, Bound(HALF, (TWO, ONE, THREE), None)), "labours")
        # No weights show a bound that some labours pass.
        low = Bound((1, 3), (THREE, ONE, THREE), told.papers)
        self.assertEqual(ratio_fault(WAYS, facts, 1, 0, low), "weights")

    def test_weights_above_the_cost_at_a_place(self):
        facts = [(0, TWO, 1)]
        tasks, told = ratio_tasks(WAYS, facts, 1, 0), greatest_ratio(WAYS, facts, 1, 0)
        for at, (rows, least, costs) in enumerate(tasks):
            weights = tuple(ZERO for _ in rows)
            papers = told.papers[:at] + (weights,) + told.papers[at + 1:]
            # The sum of the least is 0, but no more than the costs is reached at the price of the good.
            self.assertEqual(ratio_fault(WAYS, facts, 1, 0, Bound(told.most, told.labours, papers)), "weights")

    def test_weights_that_tell_more_than_is_needed_are_let(self):
        # At a task with a bound below the most, weights for a bound between both are right.
        facts = [(0, TWO, 1), (1, (1, 4), 0), (2, ONE, 1)]
        tasks, told = ratio_tasks(WAYS, facts, 0, 1), greatest_ratio(WAYS, facts, 0, 1)
        self.assertEqual(told.most, (4, 1))
        lower = 0
        for at, (rows, least, costs) in enumerate(tasks):
            value = least_cost(rows, least, costs)
            self.assertIs(value.__class__, Least)
            if -frac(value.value) < frac(told.most):
                lower += 1
                more = frac(told.most) + frac(value.value)
                raised = told.papers[at][:-1] + (back(frac(told.papers[at][-1]) + more),)
                papers = told.papers[:at] + (raised,) + told.papers[at + 1:]
                self.assertIsNone(ratio_fault(WAYS, facts, 0, 1, Bound(told.most, told.labours, papers)))
                raised = raised[:-1] + (back(frac(raised[-1]) + frac((1, 100))),)
                papers = told.papers[:at] + (raised,) + told.papers[at + 1:]
                self.assertEqual(ratio_fault(WAYS, facts, 0, 1, Bound(told.most, told.labours, papers)), "weights")
        self.assertEqual(lower, 1)

    def test_no_bound(self):
        told = greatest_ratio(WAYS, (), 0, 1)
        self.assertIsNone(told.most)
        self.assertIsNone(ratio_fault(WAYS, (), 0, 1, told))
        self.assertIsNone(ratio_fault(WAYS, [], 0, 1, Bound(None, [ONE, ZERO, THREE], [])))
        for thing in NO_SEQUENCES + (((ONE,),), [None]):
            self.assertEqual(ratio_fault(WAYS, (), 0, 1, Bound(None, told.labours, thing)), "papers")
        for thing in ((ZERO,) * 3, (ONE,) * 3, (ZERO, ONE, ONE), (ONE, HALF, ONE)):
            self.assertEqual(ratio_fault(WAYS, (), 0, 1, Bound(None, thing, ())), "reached")
            self.assertEqual(ratio_fault(WAYS, (), 0, 1, Bound(None, thing, None)), "reached")
        self.assertEqual(ratio_fault(WAYS, [(1, ONE, 0)], 0, 1, Bound(None, (ONE, ZERO, ONE), ())), "labours")

    def test_drawn_works(self):
        draw = Draw(813)
        seen = {}
        for _ in range(80):
            works, facts, inner = drawn_case(draw)
            good, other = draw.pick(plain_made(works)), draw.pick(plain_made(works))
            told = greatest_ratio(works, facts, good, other)
            self.assertIsNone(ratio_fault(works, [list(fact) for fact in facts], good, other, told))
            one, two = Quotients(works).prices_of(good, other)(inner)
            mine = Bound(back(one / two), inner, told.papers)
            found = ratio_fault(works, facts, good, other, mine)
            wanted = None if mine.most == told.most else "papers" if told.most is None else "weights"
            self.assertEqual(found, wanted)
            seen[wanted] = seen.get(wanted, 0) + 1
        self.assertTrue(len(seen) == 3 and min(seen.values()) > 5, seen)

    def test_faults_in_order(self):
        fault(self, BadFact, {"index": 0, "what": "many"}, ratio_fault, WAYS, None, None, None, None)
        for thing in NO_WHOLES + (2, -1):
            fault(self, NoGood, {"good": thing}, ratio_fault, WAYS, CLASHING, thing, None, None)
            fault(self, NoGood, {"good": thing}, ratio_fault, WAYS, CLASHING, 0, thing, None)
        fault(self, NotMade, {"good": 2}, ratio_fault, EXAMPLE, CLASHING, 2, 0, None)
        fault(self, NotMade, {"good": 2}, ratio_fault, EXAMPLE, CLASHING, 0, 2, None)
        fault(self, NoLabours, {}, ratio_fault, WAYS, CLASHING, 0, 1, None)


class TestRegretFault(BoundJudge):
    def test_words(self):
        wish = (ZERO, ONE)
        told = regret(WAYS, REGRETS, (0, 2), wish)
        self.check_words(lambda one: regret_fault(WAYS, REGRETS, (0, 2), wish, one), told,
                         regret_tasks(WAYS, REGRETS, (0, 2), wish), (ONE, TWO, ONE))
        self.assertEqual(regret_fault(WAYS, REGRETS, (0, 2), wish, Bound((3, 2), (ONE, HALF, ONE), None)), "labours")
        self.assertEqual(regret_fault(WAYS, REGRETS, (0, 2), wish, Bound((3, 2), (ONE, HALF, HALF), None)), "labours")

    def test_no_bound(self):
        told = regret(WAYS, (), (0, 1), (ZERO, ONE))
        self.assertIsNone(regret_fault(WAYS, (), [0, 1], [ZERO, ONE], told))
        self.assertEqual(regret_fault(WAYS, (), (0, 1), (ZERO, ONE), Bound(None, told.labours, ((ONE,),))), "papers")
        self.assertEqual(regret_fault(WAYS, (), (0, 1), (ZERO, ONE), Bound(None, (ONE,) * 3, ())), "reached")
        self.assertEqual(regret_fault(WAYS, (), (0, 1), (ONE, ZERO), Bound(None, told.labours, ())), "reached")

    def test_drawn_works(self):
        draw = Draw(814)
        seen = {}
        for _ in range(80):
            works, facts, inner = drawn_case(draw)
            manner, wish = draw.pick(plain_able(works)), drawn_wish(draw, works)
            told = regret(works, facts, manner, wish)
            self.assertIsNone(regret_fault(works, facts, list(manner), list(wish), told))
            one, two = Quotients(works).labours_of(manner, wish)(inner)
            mine = Bound(back(one / two), inner, told.papers)
            found = regret_fault(works, facts, manner, wish, mine)
            wanted = None if mine.most == told.most else "papers" if told.most is None else "weights"
            self.assertEqual(found, wanted)
            seen[wanted] = seen.get(wanted, 0) + 1
        self.assertTrue(len(seen) == 3 and min(seen.values()) > 3, seen)

    def test_faults_in_order(self):
        fault(self, BadFact, {"index": 0, "what": "many"}, regret_fault, WAYS, None, None, None, None)
        fault(self, BadManner, {}, regret_fault, WAYS, CLASHING, None, None, None)
        fault(self, CannotMake, {}, regret_fault, MIXED, CLASHING, (2, 3), None, None)
        fault(self, BadWish, {}, regret_fault, WAYS, CLASHING, (0, 1), (ZERO, ZERO), None)
        fault(self, NotMade, {"good": 2}, regret_fault, EXAMPLE, CLASHING, (0, 2, None), (ONE, ONE, ONE), None)
        fault(self, NoLabours, {}, regret_fault, WAYS, CLASHING, (0, 1), (ZERO, ONE), None)
        fault(self, NotMade, {"good": 0}, regret_fault, Works(1, ()), (), (None,), (ONE,), None)

    def test_told_things_stay(self):
        told = regret(WAYS, REGRETS, (0, 2), (ZERO, ONE))
        mine = Bound(told.most, list(told.labours), [list(one) for one in told.papers])
        kept = Bound(told.most, list(told.labours), [list(one) for one in told.papers])
        facts = [list(fact) for fact in REGRETS]
        self.assertIsNone(regret_fault(WAYS, facts, [0, 2], [ZERO, ONE], mine))
        self.assertEqual((mine, facts), (kept, [list(fact) for fact in REGRETS]))


if __name__ == "__main__":
    unittest.main()
