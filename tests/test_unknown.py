import unittest

from leastlabour.errors import BadFact, BadManner, CannotMake, NoLabours
from leastlabour.facts import Clash, check_labours, some_labours, with_labours
from leastlabour.manners import all_best
from leastlabour.parts import able_manners
from leastlabour.ratios import ONE, ZERO
from leastlabour.tasks import Barred
from leastlabour.unknown import NeverBest, best_ever, best_task, ever_best
from leastlabour.works import Recipe, Works
from tests.drawing import HALF, NO_SEQUENCES, Draw, fault, generated_fault, is_plain, ratio_kinds
from tests.plainfacts import PlainPrices, keeps, plain_able, plain_best_task
from tests.sums import weights_bar
from tests.test_facts import drawn_facts
from tests.test_making import EXAMPLE
from tests.test_ownrows import MIXED
from tests.test_parts import WAYS

TWO = (2, 1)
CLASHING = [(0, TWO, 1), (1, TWO, 0)]


def few_ways(draw, goods=None):
    """Works of at most 16 able manners, with at least one recipe."""
    while True:
        works = draw.works(goods or draw.whole(1, 4), 7, draw.pick((6, 8)))
        if len(works) and len(plain_able(works)) <= 16:
            return works


def kept_labours(draw, works, facts, tries=12):
    """Drawn labours that keep the facts."""
    drawn = [draw.labours(len(works)) for _ in range(tries)]
    return [labours for labours in drawn if keeps(facts, labours)]


class TestBestTask(unittest.TestCase):
    def test_example(self):
        self.assertEqual(best_task(WAYS, [(2, ONE, 1)], (0, 2)),
                         (((ZERO,) * 3, (ZERO, (-1, 1), ONE), ((-1, 2), ONE, (-1, 1))), (ZERO, ZERO, HALF)))
        self.assertEqual(best_task(WAYS, (), [0, 1]), (((ZERO,) * 3, (HALF, (-1, 1), ONE)), (ZERO, (-1, 2))))
        # Facts of a recipe and itself are added up.
        self.assertEqual(best_task(WAYS, [[0, TWO, 0]], (0, 1))[0][1], ((-1, 1), ZERO, ZERO))
        self.assertEqual(best_task(WAYS, [[0, TWO, 0]], (0, 1))[1][1], ONE)

    def test_facts_that_clash_are_no_fault_of_a_task(self):
        rows, least = best_task(WAYS, CLASHING, (0, 1))
        self.assertEqual((len(rows), len(least)), (4, 4))

    def test_useless_recipes_have_no_row(self):
        rows, _ = best_task(EXAMPLE, (), (0, 2, None))
        self.assertEqual(rows, ((ZERO,) * 3,))

    def test_drawn_works(self):
        draw = Draw(331)
        for _ in range(120):
            works = few_ways(draw)
            facts = drawn_facts(draw, len(works))
            for manner in plain_able(works)[:5]:
                told = best_task(works, [list(fact) for fact in facts], list(manner))
                is_plain(self, told)
                self.assertEqual(told, plain_best_task(works, facts, manner))
                for row in told[0] + (told[1],):
                    ratio_kinds(self, row)


class TestEverBest(unittest.TestCase):
    def check(self, works, facts, manner):
        told = ever_best(works, facts, list(manner))
        if told.__class__ is NeverBest:
            rows, least = plain_best_task(works, facts, manner)
            weights_bar(self, rows, least, told.weights)
            self.assertFalse(told == Barred(told.weights))
            return told
        self.assertEqual(check_labours(works, told), told)
        self.assertIsInstance(told, tuple)
        ratio_kinds(self, told)
        self.assertTrue(keeps(facts, told))
        self.assertTrue(PlainPrices(works).is_best(tuple(manner), told))
        if len(works):
            self.assertIn(tuple(manner), list(all_best(with_labours(works, told))))
        return told

    def test_example(self):
        self.assertEqual(self.check(WAYS, [(2, ONE, 1)], (0, 2)), NeverBest((0, 1, 1)))
        self.check(WAYS, [(2, ONE, 1)], (0, 1))
        self.assertEqual(list(best_ever(WAYS, [(2, ONE, 1)])), [(0, 1)])
        self.assertEqual(list(best_ever(WAYS, ())), [(0, 1), (0, 2)])
        self.assertEqual(list(best_ever(WAYS, [[1, ONE, 2]])), [(0, 1), (0, 2)])
        self.assertEqual(list(best_ever(WAYS, [(1, ONE, 2), (1, ONE, 0)])), [(0, 1), (0, 2)])
        self.assertEqual(list(best_ever(WAYS, [(1, TWO, 2), (1, TWO, 0)])), [(0, 2)])

    def test_without_recipes(self):
        works = Works(2, ())
        self.assertEqual(ever_best(works, (), [None, None]), ())
        self.assertEqual(list(best_ever(works, [])), [(None, None)])

    def test_without_a_good_that_can_be_made(self):
        works = Works(1, [Recipe(0, ONE, (ONE,)), Recipe(0, ONE, (TWO,))])
        self.check(works, [(0, TWO, 1)], (None,))
        self.assertEqual(list(best_ever(works, [(0, TWO, 1)])), [(None,)])

    def test_recipes_that_are_alike(self):
        works = Works(1, [Recipe(0, ONE, (HALF,))] * 3)
        self.assertEqual(list(best_ever(works, [(0, ONE, 1), (1, ONE, 2)])), [(0,), (1,), (2,)])
        self.assertEqual(list(best_ever(works, [(0, ONE, 1), (1, TWO, 2)])), [(2,)])

    def test_drawn_works(self):
        draw = Draw(332)
        kinds, clashes = {}, 0
        for _ in range(150):
            works = few_ways(draw)
            facts = drawn_facts(draw, len(works), draw.pick((2, 4, 6)))
            if some_labours(works, facts).__class__ is Clash:
                clashes += 1
                fault(self, NoLabours, {}, ever_best, works, facts, plain_able(works)[0])
                generated_fault(self, NoLabours, {}, best_ever, works, facts)
                continue
            able = plain_able(works)
            told = [self.check(works, facts, manner) for manner in able]
            for one in told:
                kinds[one.__class__] = kinds.get(one.__class__, 0) + 1
            best = [manner for manner, one in zip(able, told) if one.__class__ is tuple]
            self.assertEqual(list(best_ever(works, facts)), best)
            self.assertEqual(list(best_ever(works, facts)), best)
            prices = PlainPrices(works)
            for labours in kept_labours(draw, works, facts, 4):
                found = prices.best(labours)
                self.assertTrue(found and set(found) <= set(best))
            if not facts:
                self.assertEqual(best, able)
        self.assertTrue(min(kinds.values()) > 15 and clashes > 15, (kinds, clashes))

    def test_without_facts_all_able_manners_are_best_at_some_labours(self):
        draw = Draw(333)
        for _ in range(60):
            works = few_ways(draw)
            self.assertEqual(list(best_ever(works, ())), list(able_manners(works)))

    def test_labours_of_the_works_are_not_looked_at(self):
        draw = Draw(334)
        for _ in range(30):
            works = few_ways(draw)
            facts = drawn_facts(draw, len(works), 2)
            other = with_labours(works, draw.labours(len(works)))
            for manner in plain_able(works)[:2]:
                self.assertEqual(best_task(works, facts, manner), best_task(other, facts, manner))
                if some_labours(works, facts).__class__ is tuple:
                    self.assertEqual(ever_best(works, facts, manner), ever_best(other, facts, manner))

    def test_faults_in_order(self):
        for call in (best_task, ever_best):
            for thing in NO_SEQUENCES + ([(0, ONE, 1)] * 7,):
                fault(self, BadFact, {"index": 0, "what": "many"}, call, WAYS, thing, None)
            fault(self, BadFact, {"index": 1, "what": "fact"}, call, WAYS, [(0, ONE, 1), None], None)
            fault(self, BadFact, {"index": 0, "what": "recipe"}, call, WAYS, [(0, ONE, 3)], None)
            fault(self, BadFact, {"index": 0, "what": "ratio"}, call, WAYS, [(0, ZERO, 2)], None)
            for thing in NO_SEQUENCES + ((), (0,), (0, None), (None, None), (1, 0), (0, 1, 2), (False, 1), (0, 3)):
                fault(self, BadManner, {}, call, WAYS, CLASHING, thing)
            fault(self, CannotMake, {}, call, MIXED, CLASHING, (2, 3))
        fault(self, NoLabours, {}, ever_best, MIXED, CLASHING, (0, 1))
        generated_fault(self, BadFact, {"index": 0, "what": "many"}, best_ever, WAYS, None)
        generated_fault(self, NoLabours, {}, best_ever, WAYS, CLASHING)
        generated_fault(self, NoLabours, {}, best_ever, WAYS, [(0, (10 ** 99 + 1, 10 ** 99), 0)])

    def test_passed_lists_stay(self):
        facts, manner = [[2, ONE, 1]], [0, 2]
        best_task(WAYS, facts, manner), ever_best(WAYS, facts, manner), list(best_ever(WAYS, facts))
        self.assertEqual((facts, manner), ([[2, ONE, 1]], [0, 2]))


if __name__ == "__main__":
    unittest.main()
