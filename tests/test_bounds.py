import unittest

from leastlabour.bounds import (Bound, greatest_ratio, price_range, ratio_tasks, regret, regret_tasks, safest_manner)
from leastlabour.claims import Both, Never, Sure, decide
from leastlabour.errors import BadFact, BadManner, BadWish, CannotMake, NoGood, NoLabours, NotMade
from leastlabour.facts import check_labours, with_labours
from leastlabour.ratios import ONE, ZERO
from leastlabour.tasks import least_cost
from leastlabour.works import Recipe, Works
from tests.drawing import (HALF, NO_RATIOS, NO_SEQUENCES, NO_WHOLES, Draw, back, fault, frac, fracs, is_plain,
                           ratio_kinds, summed)
from tests.plain import plain_made
from tests.plainbounds import (Quotients, kept_inside, labours_with, plain_ratio_tasks, plain_regret_tasks)
from tests.plainfacts import keeps, plain_able
from tests.sums import added_up, row_weights
from tests.test_facts import drawn_facts
from tests.test_making import EXAMPLE
from tests.test_ownrows import MIXED
from tests.test_parts import WAYS
from tests.test_unknown import CLASHING, few_ways, kept_labours

TWO, THREE = (2, 1), (3, 1)
REGRETS = [(1, ONE, 2), (1, ONE, 0)]


def drawn_case(draw, most=6):
    """Works with goods that can be made, facts that do not clash, and labours that keep them."""
    while True:
        works = few_ways(draw, draw.pick((1, 2, 2, 3)))
        if not plain_made(works) or draw.chance(4, 5) and len(plain_made(works)) < 2:
            continue
        kept = draw.labours(len(works))
        facts = []
        for _ in range(draw.whole(0, most)):
            r, s = draw.whole(0, len(works) - 1), draw.whole(0, len(works) - 1)
            facts.append((r, back(frac(kept[r]) / frac(kept[s]) * frac(draw.pick((ONE, HALF, (2, 3))))), s))
            if draw.chance(1, 2) and len(facts) < most:
                facts.append((s, back(frac(kept[s]) / frac(kept[r]) * frac(draw.pick((HALF, (1, 4))))), r))
        return works, facts[:most], kept


def drawn_wish(draw, works):
    """A wish of goods that can be made, not all ZERO."""
    made = plain_made(works)
    wish = [draw.ratio(0, 2, 2) if good in made and draw.chance(1, 2) else ZERO for good in range(works.goods)]
    wish[draw.pick(made)] = draw.pick((ONE, HALF, THREE))
    return tuple(wish)


class BoundCase(unittest.TestCase):
    def check_bound(self, works, facts, told, tasks, both):
        """Checks a bound of the quotient of two numbers that `both` gives at labours."""
        self.assertIs(told.__class__, Bound)
        is_plain(self, (told.labours, told.papers))
        self.assertEqual(len(told.labours), len(works))
        ratio_kinds(self, told.labours)
        self.assertTrue(all(labour[0] >= 0 for labour in told.labours))
        self.assertTrue(keeps(facts, told.labours))
        one, other = both(told.labours)
        if told.most is None:
            self.assertEqual((other, told.papers), (0, ()))
            self.assertTrue(one > 0)
            return
        self.assertTrue(other > 0)
        self.assertEqual(one, frac(told.most) * other)
        self.assertEqual(len(told.papers), len(tasks))
        for (rows, least, costs), weights in zip(tasks, told.papers):
            sums = row_weights(self, rows, weights)
            self.assertTrue(all(one <= cost for one, cost in zip(added_up(rows, sums), fracs(costs))))
            total = summed(sums, fracs(least))
            self.assertTrue(-total <= frac(told.most))
            self.assertEqual(total, frac(least_cost(rows, least, costs).value))

    def check_passing(self, draw, works, facts, told, both, inner):
        """Checks that no labours that keep the facts pass the bound, and that some come as near as one likes."""
        for labours in kept_labours(draw, works, facts, 8) + [inner]:
            one, other = both(labours)
            if told.most is not None:
                self.assertTrue(one <= frac(told.most) * other)
        for part in (frac((1, 100)), frac((1, 10 ** 6))):
            near = kept_inside(told.labours, inner, part)
            self.assertEqual(check_labours(works, near), near)
            self.assertTrue(keeps(facts, near))
        one, other = both(near)
        if told.most is None:
            self.assertTrue(one > 100 * other)
        else:
            self.assertTrue(one > (frac(told.most) - frac((1, 100))) * other)


class TestRatios(BoundCase):
    def test_example(self):
        self.assertEqual(price_range(WAYS, [(0, TWO, 1)], 0, 1), (TWO, None))
        self.assertEqual(price_range(WAYS, [[0, TWO, 1]], 1, 0), (ZERO, HALF))
        self.assertEqual(greatest_ratio(WAYS, [(0, TWO, 1)], 1, 0).most, HALF)
        self.assertIsNone(greatest_ratio(WAYS, (), 0, 1).most)

    def test_tasks_of_the_example(self):
        tasks = ratio_tasks(WAYS, [(0, TWO, 1)], 0, 1)
        less = (-1, 1)
        rows = ((ONE, (-2, 1), ZERO, ZERO, ZERO), (ONE, ZERO, ZERO, less, ZERO), (ZERO, ONE, ZERO, ZERO, less),
                (ZERO, ZERO, ONE, HALF, less))
        least, costs = (ZERO,) * 4 + (less,), (ZERO, ZERO, ZERO, less, ZERO)
        self.assertEqual(tasks, ((rows + ((ZERO, less, ZERO, ZERO, ZERO),), least, costs),
                                 (rows + (((-1, 2), ZERO, less, ZERO, ZERO),), least, costs)))

    def test_equal_goods(self):
        for facts in ((), [(0, TWO, 1)]):
            for good in (0, 1):
                self.assertEqual(price_range(WAYS, facts, good, good), (ONE, ONE))
        self.check_bound(WAYS, (), greatest_ratio(WAYS, (), 0, 0), plain_ratio_tasks(WAYS, (), 0, 0),
                         Quotients(WAYS).prices_of(0, 0))

    def test_equal_recipes_and_recipes_of_no_use(self):
        works = Works(3, [Recipe(0, ONE, (ZERO,) * 3), Recipe(0, ONE, (ZERO,) * 3), Recipe(1, ONE, (HALF, ZERO, ZERO)),
                          Recipe(1, ONE, (ZERO, ONE, ZERO)), Recipe(0, ONE, (ZERO, ZERO, ONE))])
        facts = [(0, TWO, 2), (1, THREE, 2), (3, THREE, 4)]
        both = Quotients(works).prices_of(1, 0)
        told = greatest_ratio(works, facts, 1, 0)
        self.check_bound(works, facts, told, plain_ratio_tasks(works, facts, 1, 0), both)
        self.assertEqual(told.most, ONE)
        self.assertEqual(price_range(works, facts, 1, 0), (HALF, ONE))
        fault(self, NotMade, {"good": 2}, greatest_ratio, works, facts, 1, 2)

    def test_facts_of_one_proportion(self):
        facts = [(0, ONE, 1), (1, ONE, 0), (1, ONE, 2), (2, ONE, 1)]
        self.assertEqual(price_range(WAYS, facts, 0, 1), (ONE, ONE))
        facts = [(0, ONE, 1), (1, ONE, 0), (1, (4, 1), 2), (2, (1, 4), 1)]
        self.assertEqual(price_range(WAYS, facts, 0, 1), ((4, 3), (4, 3)))

    def test_tasks_of_drawn_works(self):
        draw = Draw(801)
        for _ in range(100):
            works = few_ways(draw)
            made = plain_made(works)
            if not made:
                continue
            facts, good, other = drawn_facts(draw, len(works)), draw.pick(made), draw.pick(made)
            told = ratio_tasks(works, [list(fact) for fact in facts], good, other)
            is_plain(self, told)
            self.assertEqual(told, plain_ratio_tasks(works, facts, good, other))
            for rows, least, costs in told:
                for row in rows + (least, costs):
                    ratio_kinds(self, row)

    def test_bounds_of_drawn_works(self):
        draw = Draw(802)
        seen = {"none": 0, "some": 0, "zero": 0}
        for _ in range(130):
            works, facts, inner = drawn_case(draw)
            good, other = draw.pick(plain_made(works)), draw.pick(plain_made(works))
            told = greatest_ratio(works, facts, good, other)
            self.assertEqual(told, greatest_ratio(works, facts, good, other))
            both = Quotients(works).prices_of(good, other)
            self.check_bound(works, facts, told, plain_ratio_tasks(works, facts, good, other), both)
            self.check_passing(draw, works, facts, told, both, inner)
            seen["none" if told.most is None else "some"] += told.most != ONE
            seen["zero"] += ZERO in told.labours
            self.assertEqual(told, greatest_ratio(with_labours(works, inner), facts, good, other))
        self.assertTrue(min(seen.values()) > 15, seen)

    def test_ranges_are_passed_within_and_not_outside(self):
        draw = Draw(803)
        within = 0
        for _ in range(60):
            works, facts, inner = drawn_case(draw)
            good, other = draw.pick(plain_made(works)), draw.pick(plain_made(works))
            low, high = price_range(works, facts, good, other)
            is_plain(self, (low, high))
            self.assertEqual(high, greatest_ratio(works, facts, good, other).most)
            most = greatest_ratio(works, facts, other, good).most
            self.assertEqual(low, ZERO if most is None else back(1 / frac(most)))
            self.assertIs(decide(works, facts, ("least", good, low, other)).__class__ if low != ZERO else Sure, Sure)
            if high is not None:
                self.assertIs(decide(works, facts, ("above", good, high, other)).__class__, Never)
                above = back(frac(high) + frac((1, 10 ** 9)))
                self.assertIs(decide(works, facts, ("least", good, above, other)).__class__, Never)
            if low == high:
                continue
            top = frac(high) if high is not None else frac(low) + 100
            for part in ((1, 10 ** 6), HALF, (999, 1000)):
                size = frac(low) + (top - frac(low)) * frac(part)
                told = decide(works, facts, ("least", good, back(size), other))
                self.assertIs(told.__class__, Both)
                labours = labours_with(works, good, other, size, told.no, told.yes)
                self.assertTrue(keeps(facts, labours))
                self.assertEqual(check_labours(works, labours), labours)
                one, two = Quotients(works).prices_of(good, other)(labours)
                self.assertEqual(one, size * two)
                within += 1
        self.assertTrue(within > 60, within)

    def test_faults_in_order(self):
        for call in (ratio_tasks, greatest_ratio, price_range):
            for thing in NO_SEQUENCES + ([(0, ONE, 1)] * 7,):
                fault(self, BadFact, {"index": 0, "what": "many"}, call, WAYS, thing, None, None)
            fault(self, BadFact, {"index": 1, "what": "fact"}, call, WAYS, [(0, ONE, 1), None], None, None)
            fault(self, BadFact, {"index": 0, "what": "recipe"}, call, WAYS, [(0, ONE, 3)], None, None)
            fault(self, BadFact, {"index": 0, "what": "ratio"}, call, WAYS, [(0, ZERO, 2)], None, None)
            for thing in NO_WHOLES + (2, -1):
                fault(self, NoGood, {"good": thing}, call, WAYS, CLASHING, thing, None)
                fault(self, NoGood, {"good": thing}, call, WAYS, CLASHING, 1, thing)
            fault(self, NoGood, {"good": 3}, call, EXAMPLE, CLASHING, 2, 3)
            fault(self, NotMade, {"good": 2}, call, EXAMPLE, CLASHING, 2, 2)
            fault(self, NotMade, {"good": 2}, call, EXAMPLE, CLASHING, 0, 2)
            fault(self, NotMade, {"good": 2}, call, EXAMPLE, CLASHING, 2, 0)
            fault(self, NotMade, {"good": 1}, call, Works(2, ()), (), 1, 0)
            fault(self, NotMade, {"good": 0}, call, Works(2, ()), (), 0, 1)
        for call in (greatest_ratio, price_range):
            fault(self, NoLabours, {}, call, WAYS, CLASHING, 0, 1)
        self.assertEqual(len(ratio_tasks(WAYS, CLASHING, 0, 1)), 2)


class TestRegrets(BoundCase):
    def test_example(self):
        told = regret(WAYS, REGRETS, (0, 2), (ZERO, ONE))
        self.assertEqual(told.most, (3, 2))
        self.assertIsNone(regret(WAYS, REGRETS, [0, 1], [ZERO, ONE]).most)
        self.assertEqual(safest_manner(WAYS, REGRETS, (ZERO, ONE)), ((0, 2), (3, 2)))
        self.assertEqual(regret(WAYS, REGRETS, (0, 1), (ONE, ZERO)).most, ONE)
        self.assertEqual(safest_manner(WAYS, REGRETS, [ONE, ZERO]), ((0, 1), ONE))
        # No manner has a bound: the first is told.
        self.assertEqual(safest_manner(WAYS, (), (ZERO, ONE)), ((0, 1), None))

    def test_tasks_of_the_example(self):
        less = (-1, 1)
        told = regret_tasks(WAYS, REGRETS, (0, 2), (ZERO, TWO))
        facts = ((ZERO, ONE, less), (less, ONE, ZERO))
        least, costs = (ZERO, ZERO, less), (less, ZERO, (-2, 1))
        self.assertEqual(told, ((facts + ((ZERO, (-2, 1), ZERO),), least, costs),
                                (facts + ((less, ZERO, (-2, 1)),), least, costs)))
        self.assertEqual(regret_tasks(WAYS, (), (0, 1), (ONE, ZERO))[1],
                         (((less, ZERO, ZERO),), (less,), (less, ZERO, ZERO)))

    def test_drawn_works(self):
        draw = Draw(804)
        seen = {"none": 0, "some": 0, "one": 0}
        for _ in range(130):
            works, facts, inner = drawn_case(draw)
            manner, wish = draw.pick(plain_able(works)), drawn_wish(draw, works)
            tasks = plain_regret_tasks(works, facts, manner, wish)
            self.assertEqual(regret_tasks(works, [list(fact) for fact in facts], list(manner), list(wish)), tasks)
            is_plain(self, regret_tasks(works, facts, manner, list(wish)))
            told = regret(works, facts, manner, wish)
            self.assertEqual(told, regret(works, facts, manner, wish))
            both = Quotients(works).labours_of(manner, wish)
            self.check_bound(works, facts, told, tasks, both)
            self.check_passing(draw, works, facts, told, both, inner)
            seen["none" if told.most is None else "one" if told.most == ONE else "some"] += 1
            self.assertTrue(told.most is None or frac(told.most) >= 1)
        self.assertTrue(min(seen.values()) > 10, seen)

    def test_the_least_regret(self):
        draw = Draw(805)
        several, unlike = 0, 0
        for _ in range(130):
            works, facts, _ = drawn_case(draw)
            wish = drawn_wish(draw, works)
            told = [(manner, regret(works, facts, manner, wish).most) for manner in plain_able(works)]
            least = min(told, key=lambda one: (one[1] is None, frac(one[1]) if one[1] is not None else 0))
            self.assertEqual(safest_manner(works, [list(fact) for fact in facts], list(wish)), least)
            is_plain(self, safest_manner(works, facts, wish))
            several += len(told) > 1
            unlike += least != told[0]
        self.assertTrue(several > 30 and unlike > 5, (several, unlike))

    def test_a_further_fact_never_raises_a_bound(self):
        draw = Draw(806)
        lower = 0
        for _ in range(60):
            works, facts, _ = drawn_case(draw)
            good, other = draw.pick(plain_made(works)), draw.pick(plain_made(works))
            one, two = (greatest_ratio(works, told, good, other).most for told in (facts[:len(facts) // 2], facts))
            self.assertTrue(one is None or two is not None and frac(two) <= frac(one))
            lower += one != two
        self.assertTrue(lower > 3, lower)

    def test_faults_in_order(self):
        for call in (regret_tasks, regret):
            fault(self, BadFact, {"index": 0, "what": "many"}, call, WAYS, None, None, None)
            fault(self, BadFact, {"index": 0, "what": "fact"}, call, WAYS, [5], None, None)
            for thing in NO_SEQUENCES + ((), (0,), (0, None), (None, None), (1, 0), (0, 1, 2), (False, 1), (0, 3)):
                fault(self, BadManner, {}, call, WAYS, CLASHING, thing, None)
            fault(self, CannotMake, {}, call, MIXED, CLASHING, (2, 3), None)
            self.check_wishes(lambda works, wish: call(works, CLASHING, (0, 2, None), wish),
                              lambda wish: call(WAYS, CLASHING, (0, 2), wish))
        fault(self, NoLabours, {}, regret, WAYS, CLASHING, (0, 2), (ZERO, ONE))
        self.assertEqual(len(regret_tasks(WAYS, CLASHING, (0, 2), (ZERO, ONE))), 2)
        fault(self, BadFact, {"index": 0, "what": "many"}, safest_manner, WAYS, None, None)
        self.check_wishes(lambda works, wish: safest_manner(works, CLASHING, wish),
                          lambda wish: safest_manner(WAYS, CLASHING, wish))
        fault(self, NoLabours, {}, safest_manner, WAYS, CLASHING, (ZERO, ONE))
        fault(self, BadWish, {}, safest_manner, Works(2, ()), (), (ZERO, ZERO))
        fault(self, NotMade, {"good": 1}, safest_manner, Works(2, ()), (), (ZERO, ONE))
        fault(self, NotMade, {"good": 1}, regret, Works(2, ()), (), (None, None), (ZERO, ONE))

    def check_wishes(self, of_example, of_ways):
        for thing in NO_SEQUENCES + ((), (ONE,), (ONE,) * 3, (ZERO, ZERO), (ONE, (-1, 2))):
            fault(self, BadWish, {}, of_ways, thing)
        for thing in NO_RATIOS:
            fault(self, BadWish, {}, of_ways, (ONE, thing))
        fault(self, BadWish, {}, of_example, EXAMPLE, (ZERO,) * 3)
        fault(self, NotMade, {"good": 2}, of_example, EXAMPLE, (ONE, ZERO, HALF))

    def test_passed_lists_stay(self):
        facts, manner, wish = [[1, ONE, 2], [1, ONE, 0]], [0, 2], [ZERO, ONE]
        greatest_ratio(WAYS, facts, 0, 1), price_range(WAYS, facts, 0, 1), ratio_tasks(WAYS, facts, 0, 1)
        regret(WAYS, facts, manner, wish), regret_tasks(WAYS, facts, manner, wish), safest_manner(WAYS, facts, wish)
        self.assertEqual((facts, manner, wish), ([[1, ONE, 2], [1, ONE, 0]], [0, 2], [ZERO, ONE]))


if __name__ == "__main__":
    unittest.main()
