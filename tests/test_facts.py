import unittest

from leastlabour.errors import BadFact, BadLabours
from leastlabour.facts import Clash, check_facts, check_labours, first_broken, some_labours, with_labours
from leastlabour.ratios import ONE, ZERO
from leastlabour.works import Recipe, Works
from tests.drawing import HALF, NO_RATIOS, NO_SEQUENCES, NO_WHOLES, Draw, back, fault, frac, is_plain, ratio_kinds
from tests.plainfacts import keeps, plain_clash

TWO, THREE = (2, 1), (3, 1)
NONE = Works(2, ())


def bare(many):
    """Works of so many recipes that eat nothing."""
    return Works(1, [Recipe(0, ONE, (ZERO,))] * many)


def drawn_facts(draw, many, most=6):
    """Facts about so many recipes, some of them doubled, of a recipe and itself, or in rings that just close."""
    facts = []
    for _ in range(draw.whole(0, most)):
        kind = draw.whole(1, 6)
        if kind == 1 and facts:
            facts.append(draw.pick(facts))
        elif kind == 2 and facts:
            r, k, s = draw.pick(facts)
            facts.append((s, back(1 / frac(k)), r))
        else:
            facts.append((draw.whole(0, many - 1), draw.pick((HALF, ONE, TWO, (2, 3), (1, 3), (3, 2))),
                          draw.whole(0, many - 1)))
    return facts


class TestLabours(unittest.TestCase):
    def test_right_ones(self):
        works = bare(3)
        self.assertEqual(check_labours(works, [ONE, HALF, TWO]), (ONE, HALF, TWO))
        self.assertIsInstance(check_labours(works, [ONE, HALF, TWO]), tuple)
        self.assertEqual(check_labours(NONE, []), ())
        eating = Works(2, [Recipe(1, ONE, (HALF, ZERO)), Recipe(0, TWO, (ZERO, ONE))])
        told = with_labours(eating, [THREE, HALF])
        self.assertEqual(told, Works(2, [Recipe(1, THREE, (HALF, ZERO)), Recipe(0, HALF, (ZERO, ONE))]))
        self.assertIs(told.__class__, Works)
        self.assertEqual(with_labours(NONE, ()), NONE)

    def test_faults(self):
        for call in (check_labours, with_labours):
            for thing in NO_SEQUENCES + ((), (ONE,) * 2, (ONE,) * 4, (ONE, ONE, ZERO), (ONE, (-1, 2), ONE)):
                fault(self, BadLabours, {}, call, bare(3), thing)
            for thing in NO_RATIOS:
                fault(self, BadLabours, {}, call, bare(3), [ONE, thing, ONE])
            fault(self, BadLabours, {}, call, NONE, (ONE,))


class TestFacts(unittest.TestCase):
    def test_right_ones(self):
        facts = [[0, HALF, 2], (1, ONE, 1)]
        told = check_facts(bare(3), facts)
        self.assertEqual(told, ((0, HALF, 2), (1, ONE, 1)))
        is_plain(self, told)
        self.assertEqual(check_facts(bare(3), [(0, ONE, 1)] * 6), ((0, ONE, 1),) * 6)
        self.assertEqual(check_facts(NONE, []), ())

    def test_faults_in_order(self):
        works = bare(3)
        for thing in NO_SEQUENCES + ([(0, ONE, 1)] * 7, [None] * 7):
            fault(self, BadFact, {"index": 0, "what": "many"}, check_facts, works, thing)
        for thing in NO_SEQUENCES + ((), (0, ONE), (0, ONE, 1, 2)):
            fault(self, BadFact, {"index": 1, "what": "fact"}, check_facts, works, [(0, ONE, 1), thing, (9, 9, 9)])
        for thing in NO_WHOLES + (3, -1):
            fault(self, BadFact, {"index": 0, "what": "recipe"}, check_facts, works, [(thing, None, 0), None])
            fault(self, BadFact, {"index": 2, "what": "recipe"}, check_facts, works,
                  [(0, ONE, 0), (0, ONE, 0), [0, None, thing]])
        for thing in NO_RATIOS + (ZERO, (-1, 2)):
            fault(self, BadFact, {"index": 1, "what": "ratio"}, check_facts, works, ((0, ONE, 0), (2, thing, 0), None))
        fault(self, BadFact, {"index": 0, "what": "recipe"}, check_facts, NONE, [(0, ONE, 0)])
        fault(self, BadFact, {"index": 0, "what": "fact"}, some_labours, works, [None])

    def test_first_broken(self):
        facts = [(0, TWO, 1), [1, HALF, 2]]
        self.assertIsNone(first_broken(facts, [TWO, ONE, TWO]))
        self.assertEqual(first_broken(facts, (ONE, ONE, TWO)), 0)
        self.assertEqual(first_broken(facts, (TWO, ONE, THREE)), 1)
        self.assertEqual(first_broken(facts, (ONE, ONE, THREE)), 0)
        self.assertIsNone(first_broken((), ()))
        self.assertIsNone(first_broken([(0, ONE, 0)], (HALF,)))
        self.assertEqual(first_broken([(0, (10 ** 90 + 1, 10 ** 90), 0)], (HALF,)), 0)


class TestSomeLabours(unittest.TestCase):
    def check(self, works, facts):
        told, clash = some_labours(works, facts), plain_clash(facts)
        if clash:
            self.assertEqual(told, Clash(clash))
            is_plain(self, told.lots)
            return told
        self.assertIsInstance(told, tuple)
        self.assertEqual(len(told), len(works))
        ratio_kinds(self, told)
        self.assertTrue(all(labour[0] > 0 for labour in told))
        self.assertTrue(keeps(facts, told))
        self.assertIsNone(first_broken(facts, told))
        self.assertEqual(check_labours(works, told), told)
        return told

    def test_edges(self):
        self.assertEqual(self.check(NONE, []), ())
        self.check(bare(3), [])
        self.check(bare(3), [(0, ONE, 0), (0, HALF, 0)])
        self.assertEqual(self.check(bare(3), [(0, ONE, 0), (0, TWO, 0)]), Clash(((1,),)))
        # Rings whose ratios multiply to just 1, and to a little more.
        self.check(bare(3), [(0, TWO, 1), (1, THREE, 2), (2, (1, 6), 0)])
        more = back(frac((1, 6)) + frac((1, 10 ** 90)))
        self.assertEqual(self.check(bare(3), [(0, TWO, 1), (1, THREE, 2), (2, more, 0)]), Clash(((0, 1, 2),)))
        # Doubled facts clash each for itself.
        self.assertEqual(self.check(bare(2), [(0, TWO, 1), (1, ONE, 0), (0, TWO, 1), (1, HALF, 0)]),
                         Clash(((0, 1), (1, 2))))
        self.assertEqual(self.check(bare(6), [(place, (3, 2), (place + 1) % 6) for place in range(6)]),
                         Clash((tuple(range(6)),)))
        self.check(bare(12), [(place, TWO, place + 1) for place in range(6)])
        self.check(bare(12), [(place, TWO, place - 1) for place in range(11, 5, -1)])
        self.assertEqual(self.check(bare(2), [(0, TWO, 1), (1, TWO, 0), (0, THREE, 0)]), Clash(((2,), (0, 1))))

    def test_drawn_facts(self):
        draw = Draw(311)
        kinds, most = {}, 0
        for _ in range(300):
            many = draw.whole(1, 5)
            told = self.check(bare(many), drawn_facts(draw, many))
            kinds[told.__class__] = kinds.get(told.__class__, 0) + 1
            if told.__class__ is Clash:
                most = max(most, len(told.lots))
        self.assertTrue(min(kinds.values()) > 80 and most > 3, (kinds, most))

    def test_lots_of_fewer_facts_are_kept(self):
        draw = Draw(312)
        for _ in range(100):
            facts = drawn_facts(draw, 3)
            told = some_labours(bare(3), facts)
            if told.__class__ is Clash:
                for lot in told.lots:
                    self.assertEqual(some_labours(bare(3), [facts[index] for index in lot]),
                                     Clash((tuple(range(len(lot))),)))
                    for index in lot:
                        self.check(bare(3), [facts[other] for other in lot if other != index])

    def test_facts_of_many_figures(self):
        long = 10 ** 280
        self.check(bare(2), [(0, (long, 1), 1), (1, (1, long), 0)])
        self.check(bare(2), [(0, (long + 1, 1), 1), (1, (1, long), 0)])

    def test_passed_lists_stay(self):
        facts, labours = [[0, TWO, 1], [1, TWO, 0]], [ONE, ONE]
        some_labours(bare(2), facts), check_facts(bare(2), facts), first_broken(facts, labours)
        some_labours(bare(2), facts[:1])
        with_labours(bare(2), labours)
        self.assertEqual((facts, labours), ([[0, TWO, 1], [1, TWO, 0]], [ONE, ONE]))

    def test_labours_of_the_works_are_not_looked_at(self):
        draw = Draw(313)
        for _ in range(30):
            facts = drawn_facts(draw, 3)
            self.assertEqual(some_labours(bare(3), facts), some_labours(with_labours(bare(3), draw.labours(3)), facts))


if __name__ == "__main__":
    unittest.main()
