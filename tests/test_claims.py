import unittest

from leastlabour.claims import (Both, Never, Sure, check_claim, claim_tasks, decide, standing, sure_pairs, true_at)
from leastlabour.errors import BadClaim, BadFact, BadLabours, NoLabours, NoRecipe, NotMade
from leastlabour.facts import Clash, check_labours, some_labours, with_labours
from leastlabour.judges import barred_fault
from leastlabour.prices import greatest_prices, tight_recipes
from leastlabour.ratios import ONE, ZERO
from leastlabour.tasks import Barred, Found, find_from
from leastlabour.works import Recipe, Works
from tests.drawing import (HALF, NO_RATIOS, NO_SEQUENCES, NO_WHOLES, Draw, back, fault, frac, fracs, is_plain,
                           ratio_kinds, summed)
from tests.plain import plain_made
from tests.plainfacts import PlainPrices, keeps, plain_claim_tasks, plain_making
from tests.sums import weights_bar
from tests.test_facts import drawn_facts
from tests.test_making import EXAMPLE
from tests.test_parts import WAYS
from tests.test_unknown import CLASHING, few_ways, kept_labours

TWO, THREE = (2, 1), (3, 1)
NONE = Works(2, ())
# Recipe 1 is the only one of good 1; recipe 2 eats itself up; recipe 3 is like recipe 0.
STANDS = Works(2, [Recipe(0, ONE, (ZERO, ZERO)), Recipe(1, ONE, (HALF, ZERO)), Recipe(1, ONE, (ZERO, TWO)),
                   Recipe(0, ONE, (ZERO, ZERO))])


def drawn_claim(draw, works):
    """A claim about works, or None where there is none of the drawn kind."""
    word = draw.pick(("above", "least", "used", "missed"))
    if word in ("used", "missed"):
        return (word, draw.whole(0, len(works) - 1))
    made = plain_made(works)
    if not made:
        return None
    return (word, draw.pick(made), draw.pick((ONE, HALF, TWO, (2, 3), (3, 2), draw.ratio(1, 4))), draw.pick(made))


class TestCheck(unittest.TestCase):
    def test_right_ones(self):
        for claim in (("above", 0, ONE, 1), ("least", 1, (5, 7), 1), ("used", 0), ("missed", 2)):
            self.assertIs(check_claim(WAYS, claim), claim)
        self.assertEqual(check_claim(EXAMPLE, ("used", 1)), ("used", 1))

    def calls(self):
        """All calls that take a claim, each with its arguments before and behind it."""
        return ((check_claim, (), ()), (claim_tasks, ((),), (True,)), (claim_tasks, (CLASHING,), (False,)),
                (decide, ((),), ()), (decide, (CLASHING,), ()), (true_at, ((ONE,) * 3,), ()))

    def test_faults_in_order(self):
        wrong = NO_SEQUENCES + ((), [], ["used", 0], ["above", 0, ONE, 1], ("used",), ("used", 0, 0), ("missed",),
                                ("above", 0, ONE), ("above", 0), ("least", 0, ONE, 1, 1), ("Above", 0, ONE, 1),
                                ("equal", 0, ONE, 1), (None, 0), (["used"], 0), (("used",), 0), ("never", 0),
                                (0, "used"))
        for call, before, behind in self.calls():
            for thing in wrong:
                fault(self, BadClaim, {"what": "claim"}, call, WAYS, *before, thing, *behind)
            for thing in NO_WHOLES + (2, -1):
                fault(self, BadClaim, {"what": "good"}, call, WAYS, *before, ("above", thing, None, 0), *behind)
                fault(self, BadClaim, {"what": "good"}, call, WAYS, *before, ("least", 1, None, thing), *behind)
            for thing in NO_RATIOS + (ZERO, (-1, 2)):
                fault(self, BadClaim, {"what": "ratio"}, call, WAYS, *before, ("above", 0, thing, 1), *behind)
                fault(self, BadClaim, {"what": "ratio"}, call, EXAMPLE, *before, ("least", 2, thing, 2), *behind)
            for thing in NO_WHOLES + (3, -1):
                fault(self, BadClaim, {"what": "recipe"}, call, WAYS, *before, ("used", thing), *behind)
                fault(self, BadClaim, {"what": "recipe"}, call, WAYS, *before, ("missed", thing), *behind)
            fault(self, NotMade, {"good": 2}, call, EXAMPLE, *before, ("above", 0, ONE, 2), *behind)
            fault(self, NotMade, {"good": 2}, call, EXAMPLE, *before, ("least", 2, ONE, 0), *behind)
        ring = Works(3, [Recipe(0, ONE, (ONE, ZERO, ZERO)), Recipe(1, ONE, (ZERO,) * 3)])
        fault(self, NotMade, {"good": 2}, check_claim, ring, ("above", 2, ONE, 0))
        fault(self, NotMade, {"good": 0}, check_claim, ring, ("above", 0, ONE, 2))
        fault(self, NotMade, {"good": 0}, decide, NONE, (), ("above", 0, ONE, 1))
        fault(self, BadClaim, {"what": "recipe"}, decide, NONE, (), ("used", 0))

    def test_facts_and_labours_come_first(self):
        for call, behind in ((claim_tasks, (None, True)), (decide, (None,)), (sure_pairs, ()), (standing, (None,))):
            for thing in NO_SEQUENCES + ([(0, ONE, 0)] * 7,):
                fault(self, BadFact, {"index": 0, "what": "many"}, call, WAYS, thing, *behind)
            fault(self, BadFact, {"index": 1, "what": "fact"}, call, WAYS, [(0, ONE, 0), 5], *behind)
            fault(self, BadFact, {"index": 0, "what": "recipe"}, call, WAYS, [(3, ONE, 0)], *behind)
            fault(self, BadFact, {"index": 0, "what": "ratio"}, call, WAYS, [(0, 1, 0)], *behind)
        for thing in NO_SEQUENCES + ((), (ONE,) * 2, (ONE, ONE, ZERO), (ONE, ONE, (-1, 2)), (ONE, ONE, 1)):
            fault(self, BadLabours, {}, true_at, WAYS, thing, None)

    def test_no_labours(self):
        fault(self, NoLabours, {}, decide, WAYS, CLASHING, ("used", 0))
        fault(self, NoLabours, {}, decide, EXAMPLE, CLASHING, ("missed", 1))
        fault(self, NoLabours, {}, sure_pairs, WAYS, CLASHING)
        fault(self, NoLabours, {}, sure_pairs, Works(1, [Recipe(0, ONE, (ONE,))] * 2), CLASHING)
        fault(self, NoLabours, {}, standing, WAYS, CLASHING, 0)
        for thing in NO_WHOLES + (3, -1):
            fault(self, NoRecipe, {"number": thing}, standing, WAYS, CLASHING, thing)
        fault(self, NoRecipe, {"number": 0}, standing, NONE, (), 0)


class TestTrueAt(unittest.TestCase):
    def test_examples(self):
        for labours, word, wanted in (((ONE, ONE, ONE), "used", [True, True, False]),
                                      ((ONE, ONE, HALF), "used", [True, True, True]),
                                      ((ONE, ONE, HALF), "missed", [True, False, False]),
                                      ((TWO, THREE, ONE), "missed", [True, False, True])):
            self.assertEqual([true_at(WAYS, list(labours), (word, recipe)) for recipe in range(3)], wanted)
        self.assertIs(true_at(WAYS, (ONE, ONE, ONE), ("above", 0, ONE, 1)), False)
        self.assertIs(true_at(WAYS, (ONE, ONE, ONE), ("least", 0, ONE, 1)), True)
        self.assertIs(true_at(WAYS, (ONE, ONE, ONE), ("above", 0, (99, 100), 1)), True)
        self.assertIs(true_at(WAYS, (ONE, ONE, ONE), ("above", 0, ONE, 0)), False)
        self.assertIs(true_at(WAYS, (ONE, ONE, ONE), ("least", 0, ONE, 0)), True)
        self.assertIs(true_at(EXAMPLE, (ONE, ONE, ONE), ("used", 1)), False)
        self.assertIs(true_at(EXAMPLE, (ONE, ONE, ONE), ("missed", 1)), False)

    def test_drawn(self):
        draw = Draw(341)
        seen = {}
        for _ in range(150):
            works = few_ways(draw)
            prices = PlainPrices(works)
            for _ in range(3):
                claim, labours = drawn_claim(draw, works), draw.labours(len(works))
                if claim is None:
                    continue
                told = true_at(works, labours, claim)
                self.assertIs(told, prices.is_true(labours, claim))
                self.assertIs(true_at(with_labours(works, draw.labours(len(works))), labours, claim), told)
                seen[(claim[0], told)] = seen.get((claim[0], told), 0) + 1
        self.assertTrue(len(seen) == 8 and min(seen.values()) > 15, seen)

    def test_a_recipe_is_missed_exactly_if_the_works_without_it_have_other_prices(self):
        draw = Draw(342)
        missed = 0
        for _ in range(100):
            works = few_ways(draw)
            labours = draw.labours(len(works))
            changed = with_labours(works, labours)
            for recipe in range(len(works)):
                told = true_at(works, labours, ("missed", recipe))
                self.assertIs(told, greatest_prices(changed) != greatest_prices(changed.without_recipe(recipe)))
                self.assertIs(true_at(works, labours, ("used", recipe)),
                              any(recipe in tight for tight in tight_recipes(changed)))
                missed += told
        self.assertTrue(missed > 50, missed)


class TestTasks(unittest.TestCase):
    def test_example(self):
        facts = [(2, ONE, 1)]
        head = ((ZERO,) * 3, (ZERO, (-1, 1), ONE))
        self.assertEqual(claim_tasks(WAYS, facts, ("used", 2), True), ((head + (((-1, 2), ONE, (-1, 1)),),
                                                                        (ZERO, ZERO, HALF)),))
        self.assertEqual(claim_tasks(WAYS, facts, ("used", 2), False), ((head + ((HALF, (-1, 1), ONE),),
                                                                         (ZERO, ZERO, HALF)),))
        self.assertEqual(claim_tasks(WAYS, facts, ("missed", 2), True), ((head + (((-1, 2), ONE, (-1, 1)),),
                                                                          (ZERO, ZERO, (3, 2))),))
        self.assertEqual(claim_tasks(WAYS, facts, ("missed", 2), False), ((head + ((HALF, (-1, 1), ONE),),
                                                                           (ZERO, ZERO, (-1, 2))),))
        # No able manner is without recipe 0: one bare task, and none.
        self.assertEqual(claim_tasks(WAYS, facts, ("missed", 0), True), ((head, (ZERO, ZERO)),))
        self.assertEqual(claim_tasks(WAYS, facts, ("missed", 0), False), ())
        self.assertEqual(claim_tasks(WAYS, facts, ("used", 0), False), ())
        # A recipe of no use.
        for word in ("used", "missed"):
            self.assertEqual(claim_tasks(EXAMPLE, (), (word, 1), True), ())
            self.assertEqual(claim_tasks(EXAMPLE, (), (word, 1), False), ((((ZERO,) * 3,), (ZERO,)),))

    def test_prices_of_the_example(self):
        told = claim_tasks(WAYS, (), ("above", 0, TWO, 1), True)
        self.assertEqual(len(told), 2)
        rows, least = told[1]
        minus_one = (-1, 1)
        self.assertEqual(rows, ((ZERO,) * 5, (ONE, ZERO, ZERO, minus_one, ZERO), (ZERO, ONE, ZERO, ZERO, minus_one),
                                (ZERO, ZERO, ONE, HALF, minus_one), (minus_one, ZERO, (-2, 1), ONE, ZERO)))
        self.assertEqual(least, (ZERO, minus_one, minus_one, minus_one, (4, 1)))
        rows, least = claim_tasks(WAYS, (), ("above", 0, TWO, 1), False)[1]
        self.assertEqual((rows[4], least[4]), ((minus_one, ZERO, ZERO, ZERO, TWO), ONE))
        rows, least = claim_tasks(WAYS, (), ("least", 0, TWO, 1), True)[1]
        self.assertEqual((rows[4], least[4]), ((minus_one, ZERO, (-2, 1), ONE, ZERO), THREE))
        rows, least = claim_tasks(WAYS, (), ("least", 0, TWO, 1), False)[1]
        self.assertEqual((rows[4], least[4]), ((minus_one, ZERO, ZERO, ZERO, TWO), TWO))

    def test_drawn(self):
        draw = Draw(343)
        for _ in range(150):
            works = few_ways(draw)
            facts, claim = drawn_facts(draw, len(works), 3), drawn_claim(draw, works)
            if claim is None:
                continue
            for holds in (True, False):
                told = claim_tasks(works, [list(fact) for fact in facts], claim, holds)
                is_plain(self, told)
                self.assertEqual(told, plain_claim_tasks(works, facts, claim, holds))
                for rows, least in told:
                    for row in rows + (least,):
                        ratio_kinds(self, row)

    def test_some_labours_make_it_so_exactly_if_numbers_meet_a_task(self):
        draw = Draw(344)
        for _ in range(120):
            works = few_ways(draw)
            facts, claim = drawn_facts(draw, len(works), 2), drawn_claim(draw, works)
            if claim is None:
                continue
            prices = PlainPrices(works)
            tasks = {holds: claim_tasks(works, facts, claim, holds) for holds in (True, False)}
            for labours in kept_labours(draw, works, facts, 6):
                # Labours so great that each gap that is above 0 is at least 1.
                great = [frac(labour) * 10 ** 6 for labour in labours]
                row = prices.row([back(labour) for labour in great])
                numbers = [labour - 1 for labour in great]
                if claim[0] in ("above", "least"):
                    numbers += [price or 0 for price in row]
                holds = prices.is_true(labours, claim)
                self.assertTrue(any(self.meets(task, numbers) for task in tasks[holds]))
            for holds, told in tasks.items():
                for rows, least in told:
                    found = find_from(rows, least)
                    if found.__class__ is Found:
                        labours = [back(1 + frac(number)) for number in found.numbers[:len(works)]]
                        self.assertTrue(keeps(facts, labours))
                        self.assertIs(prices.is_true(labours, claim), holds)

    def meets(self, task, numbers):
        return all(summed(fracs(row), numbers) >= frac(low) for row, low in zip(*task))


class TestDecide(unittest.TestCase):
    def check(self, works, facts, claim):
        told = decide(works, [list(fact) for fact in facts], claim)
        if told.__class__ is Both:
            for labours, wanted in ((told.yes, True), (told.no, False)):
                self.assertEqual(check_labours(works, labours), labours)
                self.assertIsInstance(labours, tuple)
                ratio_kinds(self, labours)
                self.assertTrue(keeps(facts, labours))
                self.assertIs(PlainPrices(works).is_true(labours, claim), wanted)
            return told
        tasks = plain_claim_tasks(works, facts, claim, told.__class__ is Never)
        self.assertIsInstance(told.papers, tuple)
        self.assertEqual(len(told.papers), len(tasks))
        for (rows, least), weights in zip(tasks, told.papers):
            weights_bar(self, rows, least, weights)
            self.assertIsNone(barred_fault(rows, least, Barred(weights)))
        return told

    def test_example(self):
        facts = [(0, TWO, 1)]
        told = self.check(WAYS, facts, ("above", 0, ONE, 1))
        self.assertIs(told.__class__, Sure)
        self.assertIs(self.check(WAYS, facts, ("above", 0, TWO, 1)).__class__, Both)
        self.assertIs(self.check(WAYS, facts, ("least", 0, TWO, 1)).__class__, Sure)
        self.assertIs(self.check(WAYS, facts, ("least", 0, back(frac(TWO) + frac((1, 10 ** 50))), 1)).__class__, Both)
        self.assertEqual(sure_pairs(WAYS, facts), ((0, 1),))
        self.assertIs(self.check(WAYS, [(2, ONE, 1)], ("used", 2)).__class__, Never)

    def test_equal_goods(self):
        for facts in ([], [(0, TWO, 1)]):
            self.assertIs(self.check(WAYS, facts, ("above", 0, ONE, 0)).__class__, Never)
            self.assertIs(self.check(WAYS, facts, ("least", 0, ONE, 0)).__class__, Sure)
            self.assertIs(self.check(WAYS, facts, ("above", 1, (99, 100), 1)).__class__, Sure)
            self.assertIs(self.check(WAYS, facts, ("least", 1, (101, 100), 1)).__class__, Never)

    def test_recipes_of_no_use(self):
        for word in ("used", "missed"):
            self.assertEqual(self.check(EXAMPLE, [], (word, 1)), Never(()))
        self.assertEqual(self.check(EXAMPLE, [], ("missed", 0)), Sure(()))
        self.assertEqual(self.check(EXAMPLE, [], ("used", 0)), Sure(()))

    def test_drawn(self):
        draw = Draw(345)
        kinds = {}
        for _ in range(200):
            works = few_ways(draw)
            facts, claim = drawn_facts(draw, len(works), 4), drawn_claim(draw, works)
            if claim is None:
                continue
            if some_labours(works, facts).__class__ is Clash:
                fault(self, NoLabours, {}, decide, works, facts, claim)
                continue
            told = self.check(works, facts, claim)
            kind = (claim[0], told.__class__.__name__)
            kinds[kind] = kinds.get(kind, 0) + 1
            self.assertEqual(decide(works, facts, claim), told)
            prices = PlainPrices(works)
            for labours in kept_labours(draw, works, facts, 5):
                true = prices.is_true(labours, claim)
                self.assertTrue(told.__class__ is Both or true is (told.__class__ is Sure))
            # With a further fact what is sure or never stays so.
            more = facts[:5] + [(draw.whole(0, len(works) - 1), draw.pick((ONE, TWO)), draw.whole(0, len(works) - 1))]
            if told.__class__ is not Both and some_labours(works, more).__class__ is tuple and len(facts) < 6:
                self.assertIs(decide(works, more, claim).__class__, told.__class__)
        self.assertTrue(len(kinds) == 12, kinds)

    def test_six_facts(self):
        works = Works(2, [Recipe(k % 2, ONE, (ZERO, ZERO)) for k in range(7)])
        facts = [(k, TWO, k + 1) for k in range(6)]
        self.assertIs(self.check(works, facts, ("above", 1, ONE, 0)).__class__, Sure)
        self.assertIs(self.check(works, facts, ("least", 1, TWO, 0)).__class__, Sure)
        self.assertEqual([standing(works, facts, recipe) for recipe in range(7)],
                         ["idle"] * 5 + ["all", "all"])
        fault(self, BadFact, {"index": 0, "what": "many"}, decide, works, facts + facts[:1], ("used", 0))

    def test_a_ring_that_just_closes(self):
        # Labours of 0 and 1 are alike: each of them is used, none is missed.
        works = Works(1, [Recipe(0, ONE, (ZERO,)), Recipe(0, ONE, (ZERO,))])
        facts = [(0, ONE, 1), (1, ONE, 0)]
        for recipe in range(2):
            self.assertIs(self.check(works, facts, ("used", recipe)).__class__, Sure)
            self.assertIs(self.check(works, facts, ("missed", recipe)).__class__, Never)
            self.assertEqual(standing(works, facts, recipe), "tie")

    def test_labours_of_the_works_are_not_looked_at(self):
        draw = Draw(346)
        for _ in range(30):
            works = few_ways(draw)
            facts, claim = drawn_facts(draw, len(works), 1), drawn_claim(draw, works)
            other = with_labours(works, draw.labours(len(works)))
            if claim is not None and some_labours(works, facts).__class__ is tuple:
                self.assertEqual(decide(works, facts, claim), decide(other, facts, claim))
                self.assertEqual(sure_pairs(works, facts), sure_pairs(other, facts))

    def test_passed_lists_stay(self):
        facts, labours = [[0, TWO, 1]], [ONE, ONE, ONE]
        decide(WAYS, facts, ("used", 2)), sure_pairs(WAYS, facts), standing(WAYS, facts, 2)
        claim_tasks(WAYS, facts, ("above", 0, ONE, 1), True), true_at(WAYS, labours, ("used", 2))
        self.assertEqual((facts, labours), ([[0, TWO, 1]], [ONE, ONE, ONE]))


class TestPairsAndStanding(unittest.TestCase):
    def test_examples(self):
        self.assertEqual(sure_pairs(WAYS, ()), ())
        self.assertEqual(sure_pairs(WAYS, [(0, ONE, 1), (1, ONE, 0), (2, ONE, 0)]), ((0, 1), (1, 0)))
        self.assertEqual(sure_pairs(NONE, ()), ())
        self.assertEqual(sure_pairs(EXAMPLE, ()), ((1, 0),))
        self.assertEqual([standing(STANDS, (), recipe) for recipe in range(4)], ["some", "all", "idle", "some"])
        self.assertEqual([standing(STANDS, [(0, ONE, 3)], recipe) for recipe in range(4)],
                         ["tie", "all", "idle", "some"])
        self.assertEqual([standing(STANDS, [[0, TWO, 3]], recipe) for recipe in range(4)],
                         ["idle", "all", "idle", "all"])
        self.assertEqual(standing(EXAMPLE, (), 1), "idle")

    def test_drawn_pairs(self):
        draw = Draw(347)
        seen = 0
        for _ in range(60):
            works = few_ways(draw)
            facts = drawn_facts(draw, len(works), 4)
            if some_labours(works, facts).__class__ is Clash:
                fault(self, NoLabours, {}, sure_pairs, works, facts)
                continue
            told, made = sure_pairs(works, facts), plain_made(works)
            is_plain(self, told)
            wanted = tuple((g, h) for g in made for h in made
                           if g != h and decide(works, facts, ("least", g, ONE, h)).__class__ is Sure)
            self.assertEqual(told, wanted)
            seen += len(told) > 0
            for labours in kept_labours(draw, works, facts, 3):
                row = PlainPrices(works).row(labours)
                self.assertTrue(all(row[g] >= row[h] for g, h in told))
        self.assertTrue(seen > 5, seen)

    def test_drawn_standings(self):
        draw = Draw(348)
        seen = {}
        for _ in range(60):
            works = few_ways(draw)
            facts = drawn_facts(draw, len(works), 4)
            if some_labours(works, facts).__class__ is Clash:
                continue
            prices = PlainPrices(works)
            drawn = kept_labours(draw, works, facts, 4)
            for recipe in range(len(works)):
                told = standing(works, facts, recipe)
                seen[told] = seen.get(told, 0) + 1
                used, missed = decide(works, facts, ("used", recipe)), decide(works, facts, ("missed", recipe))
                self.assertEqual(told == "idle", used.__class__ is Never)
                self.assertEqual(told in ("idle", "tie"), missed.__class__ is Never)
                self.assertEqual(told == "all", missed.__class__ is Sure)
                self.assertTrue(told == "idle" or recipe in plain_making(works))
                for labours in drawn:
                    true = prices.is_true(labours, ("missed", recipe))
                    self.assertTrue(not true if told in ("idle", "tie") else true or told == "some")
                    self.assertTrue(told != "idle" or not prices.is_true(labours, ("used", recipe)))
        self.assertTrue(len(seen) == 4 and min(seen.values()) >= 2, seen)


if __name__ == "__main__":
    unittest.main()
