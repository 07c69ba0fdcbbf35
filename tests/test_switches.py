import unittest
from fractions import Fraction

from leastlabour.errors import (BadManner, BadSpan, CannotRun, NoGood, NoRecipe, NotMade, NotOne, OutOfManner)
from leastlabour.polynomials import value_at
from leastlabour.ratios import ONE, ZERO
from leastlabour.roots import find_roots, sides_of
from leastlabour.switches import (Switches, find_switches, is_best_within, limit_of, making_polynomial,
                                  price_polynomial, switch_polynomial)
from leastlabour.works import Recipe, Works
from leastlabour.workstext import works_of
from tests.drawing import (HALF, NO_RATIOS, NO_SEQUENCES, NO_WHOLES, Draw, back, fault, frac, fracs, is_plain,
                           ratio_kinds, row_of_wholes)
from tests.plain import eaten_goods, plain_manners, plain_row
from tests.plainrates import (PlainRates, is_best, plain_making_polynomial, plain_price_polynomial,
                              plain_switch_polynomial, roots_between, value, wasted)
from tests.test_making import EXAMPLE
from tests.test_rates import FREE, WASTED

TWO, THREE = (2, 1), (3, 1)
COMING = works_of("goods 3\n1: 1\n2: 1 + 1 of 1\n0: 1 + 9 of 1\n0: 7 + 2 of 2")
NO_MANNERS = NO_SEQUENCES + ((), (2, 0), (2, 0, 1, None), (0, 0, 1), (2, None, 1), (2, 0, 4), (2, False, 1))
# Good 0 is made of itself with 1/2 or 3/4 of it, or of nothing.
EATERS = works_of("goods 1\n0: 1 + 1/2 of 0\n0: 1 + 3/4 of 0\n0: 4\n0: 1 + 1/2 of 0\n0: 1 + 1 of 0")


def drawn_manner(draw, able=False):
    """Works and a closed manner, which can make if it has to."""
    while True:
        works = draw.eating_works() if draw.chance(3, 4) else draw.works(draw.whole(1, 3), 7, 6)
        manner = draw.pick(list(plain_manners(works)))
        if not able or any(entry is not None for entry in manner) and plain_row(works, manner) is not None:
            return works, manner


def fitting(works, manner):
    """The recipes whose good and eaten goods are all goods of the manner."""
    goods = {good for good, entry in enumerate(manner) if entry is not None}
    return [number for number, recipe in enumerate(works) if {recipe.good, *eaten_goods(recipe)} <= goods]


def put(works, manner, number):
    changed = list(manner)
    changed[works.recipes[number].good] = number
    return tuple(changed)


class TestPolynomials(unittest.TestCase):
    def test_examples(self):
        self.assertEqual(switch_polynomial(COMING, (2, 0, 1), 3), row_of_wholes(1, -3, 2))
        self.assertEqual(making_polynomial(COMING, [2, 0, 1]), (ONE,))
        self.assertEqual(price_polynomial(COMING, (2, 0, 1), 0), row_of_wholes(10, 9))
        self.assertEqual(price_polynomial(COMING, (3, 0, 1), 0), row_of_wholes(11, 6, 2))
        self.assertEqual(making_polynomial(EATERS, (0,)), (HALF, (-1, 2)))
        self.assertEqual(making_polynomial(EATERS, (4,)), (ZERO, (-1, 1)))
        self.assertEqual(price_polynomial(EATERS, (2,), 0), ((4, 1),))
        self.assertEqual(switch_polynomial(EATERS, (0,), 2), (ONE, (-2, 1)))
        # Manners for some goods and for none.
        self.assertEqual(making_polynomial(COMING, (None, None, None)), (ONE,))
        self.assertEqual(making_polynomial(WASTED, (None, 2, None)), (ONE,))
        self.assertEqual(price_polynomial(COMING, (None, 0, None), 1), (ONE,))
        # A manner that cannot make.
        self.assertEqual(making_polynomial(WASTED, (None, None, 3)), row_of_wholes(-1, -2))
        self.assertEqual(price_polynomial(WASTED, (None, None, 3), 2), (ONE,))

    def test_nought_for_recipes_of_the_manner(self):
        for works, manner in ((COMING, (2, 0, 1)), (COMING, (3, 0, 1)), (WASTED, (0, 1, 3)), (EATERS, (4,))):
            for number in manner:
                self.assertEqual(switch_polynomial(works, manner, number), ())
        # Two recipes that cost the same at all rates.
        self.assertEqual(switch_polynomial(EATERS, (0,), 3), ())

    def test_drawn(self):
        draw = Draw(861)
        lengths = set()
        for _ in range(120):
            works, manner = drawn_manner(draw)
            told = making_polynomial(works, list(manner))
            is_plain(self, told)
            ratio_kinds(self, told)
            self.assertEqual(fracs(told), plain_making_polynomial(works, manner))
            lengths.add(len(told))
            for good, entry in enumerate(manner):
                if entry is not None:
                    self.assertEqual(fracs(price_polynomial(works, list(manner), good)),
                                     plain_price_polynomial(works, manner, good))
            for number in fitting(works, manner):
                told = switch_polynomial(works, manner, number)
                is_plain(self, told)
                self.assertEqual(fracs(told), plain_switch_polynomial(works, manner, number))
                self.assertTrue(number not in manner or told == ())
        self.assertTrue(len(lengths) > 3, lengths)

    def test_prices_are_the_price_by_the_making_polynomial(self):
        draw = Draw(862)
        told = 0
        for _ in range(100):
            works, manner = drawn_manner(draw)
            rate = draw.ratio(0, 2, 5)
            row = plain_row(wasted(works, frac(rate)), manner)
            made = frac(value_at(making_polynomial(works, manner), rate))
            for good, price in (row or {}).items():
                self.assertEqual(price, frac(value_at(price_polynomial(works, manner, good), rate)) / made)
                told += 1
        self.assertTrue(told > 60, told)

    def test_a_manner_can_make_exactly_up_to_the_first_root(self):
        draw = Draw(863)
        seen = {}
        for _ in range(200):
            works, manner = drawn_manner(draw)
            made = fracs(making_polynomial(works, manner))
            rate = frac(draw.ratio(0, 2, 5))
            makes = plain_row(wasted(works, rate), manner) is not None
            rooted = value(made, 0) == 0 or value(made, rate) == 0
            if not rooted and rate > 0:
                rooted = roots_between(made, Fraction(0), rate) > 0
            self.assertIs(makes, plain_row(works, manner) is not None and not rooted)
            seen[makes] = seen.get(makes, 0) + 1
        # A rate that is just the root.
        self.assertIsNone(plain_row(wasted(EATERS, 1), (0,)))
        self.assertEqual(value_at(making_polynomial(EATERS, (0,)), ONE), ZERO)
        self.assertTrue(min(seen.values()) > 30, seen)

    def test_faults_in_order(self):
        calls = (making_polynomial, lambda works, manner: price_polynomial(works, manner, None),
                 lambda works, manner: switch_polynomial(works, manner, None))
        for call in calls:
            for thing in NO_MANNERS:
                fault(self, BadManner, {}, call, COMING, thing)
        for thing in NO_WHOLES + (3, -1):
            fault(self, NoGood, {"good": thing}, price_polynomial, COMING, (None,) * 3, thing)
        fault(self, NotMade, {"good": 0}, price_polynomial, COMING, (None, 0, 1), 0)
        fault(self, NotMade, {"good": 2}, price_polynomial, COMING, (2, 0, None), 2)
        for thing in NO_WHOLES + (4, -1):
            fault(self, NoRecipe, {"number": thing}, switch_polynomial, COMING, (None,) * 3, thing)
        for manner, number in (((None, 0, 1), 2), ((2, 0, None), 3), ((2, 0, None), 1), ((None,) * 3, 0)):
            fault(self, OutOfManner, {"number": number}, switch_polynomial, COMING, manner, number)


class TestSigns(unittest.TestCase):
    def test_one_sign_decides_for_all_goods(self):
        draw = Draw(864)
        seen = {}
        for _ in range(250):
            works, manner = drawn_manner(draw, True)
            rate = frac(draw.ratio(0, 1, 6))
            changed = wasted(works, rate)
            own = plain_row(changed, manner)
            numbers = [number for number in fitting(works, manner) if number not in manner]
            if own is None or not numbers:
                continue
            number = draw.pick(numbers)
            good = works.recipes[number].good
            worth = value(fracs(switch_polynomial(works, manner, number)), rate)
            sign = (worth > 0) - (worth < 0)
            row = plain_row(changed, put(works, manner, number))
            if sign <= 0:
                self.assertIsNotNone(row)
            if row is not None:
                gaps = [row[g] - own[g] for g in own]
                self.assertTrue(all(gap == 0 for gap in gaps) if sign == 0 else all(sign * gap >= 0 for gap in gaps))
                self.assertTrue(sign * (row[good] - own[good]) > 0 or sign == 0)
            seen[(sign, row is None)] = seen.get((sign, row is None), 0) + 1
        self.assertTrue(seen[(-1, False)] > 10 and seen[(1, False)] > 10 and seen[(1, True)] > 3, seen)

    def test_equal_prices(self):
        self.assertEqual(value_at(switch_polynomial(COMING, (2, 0, 1), 3), HALF), ZERO)
        self.assertEqual(plain_row(wasted(COMING, Fraction(1, 2)), (2, 0, 1)),
                         plain_row(wasted(COMING, Fraction(1, 2)), (3, 0, 1)))


class TestFindSwitches(unittest.TestCase):
    def test_examples(self):
        told = find_switches(COMING, (2, 0, 1), [3, 0, 1], ZERO, TWO, (1, 8))
        self.assertEqual(told, Switches((((3, 8), HALF), ((7, 8), ONE)), (1, -1, 1)))
        self.assertEqual(find_switches(COMING, (3, 0, 1), (2, 0, 1), ZERO, TWO, TWO),
                         Switches(((ZERO, HALF), (HALF, ONE)), (-1, 1, -1)))
        self.assertEqual(find_switches(COMING, (2, 0, 1), (3, 0, 1), HALF, ONE, ONE), Switches((), (-1,)))
        # Two recipes that cost the same at all rates.
        self.assertEqual(find_switches(EATERS, (0,), (3,), ZERO, HALF, ONE), Switches((), (0,)))
        self.assertEqual(find_switches(EATERS, (0,), (2,), ZERO, (9, 10), ONE), Switches(((ZERO, (9, 10)),), (1, -1)))

    def test_drawn(self):
        draw = Draw(865)
        found, stopped = 0, 0
        for _ in range(200):
            works, manner = drawn_manner(draw, True)
            if draw.chance(1, 3):
                works, manner = draw.coming_works(), (2, 0, 1)
            numbers = [number for number in fitting(works, manner) if number not in manner]
            if not numbers:
                continue
            number = draw.pick(numbers)
            other = put(works, manner, number)
            low = draw.pick((ZERO, (1, 7), HALF))
            high = back(frac(low) + frac(draw.pick(((1, 5), HALF, ONE))))
            width = draw.pick(((1, 20), HALF, (9, 1)))
            changed = wasted(works, frac(high))
            if plain_row(changed, manner) is None or plain_row(changed, other) is None:
                fault(self, CannotRun, {}, find_switches, works, manner, other, low, high, width)
                stopped += 1
                continue
            told = find_switches(works, list(manner), list(other), low, high, width)
            switch = tuple(back(one) for one in plain_switch_polynomial(works, manner, number))
            spans = find_roots(switch, low, high, width) if switch else ()
            self.assertEqual(told, Switches(spans, sides_of(switch, low, high)))
            is_plain(self, (told.spans, told.sides))
            self.assertTrue(len(told.spans) <= len([entry for entry in manner if entry is not None]))
            found += len(told.spans)
        self.assertTrue(found > 5 and stopped > 10, (found, stopped))

    def test_faults_in_order(self):
        right = (2, 0, 1)
        for thing in NO_MANNERS:
            fault(self, BadManner, {}, find_switches, COMING, thing, None, None, None, None)
            fault(self, BadManner, {}, find_switches, COMING, right, thing, None, None, None)
        for thing in NO_RATIOS + ((-1, 2), (-1, 10 ** 20)):
            fault(self, BadSpan, {"what": "low"}, find_switches, COMING, right, right, thing, None, None)
            fault(self, BadSpan, {"what": "low"}, find_switches, COMING, right, right, thing, (-7, 1), None)
        for thing in NO_RATIOS + (ONE, HALF, ZERO):
            fault(self, BadSpan, {"what": "high"}, find_switches, COMING, right, right, ONE, thing, None)
        for thing in NO_RATIOS + (ZERO, (-1, 2)):
            fault(self, BadSpan, {"what": "width"}, find_switches, COMING, right, right, ZERO, ONE, thing)
        two = works_of("goods 2\n0: 1 + 1/2 of 0\n0: 2\n1: 1\n1: 2")
        for one, other in (((0, 2), (0, 2)), ((0, 2), (1, 3)), ((0, None), (0, 2)), ((0, 2), (0, None)),
                           ((None, None), (0, None)), ((None, None), (None, None))):
            fault(self, NotOne, {}, find_switches, two, one, other, ZERO, (5, 1), ONE)
        fault(self, CannotRun, {}, find_switches, two, (0, 2), (1, 2), ZERO, ONE, ONE)
        fault(self, CannotRun, {}, find_switches, two, (1, 2), (0, 2), ZERO, ONE, ONE)
        self.assertEqual(find_switches(two, (1, 2), (0, 2), ZERO, (99, 100), ONE).spans, ())

    def test_passed_lists_stay(self):
        one, other = [2, 0, 1], [3, 0, 1]
        find_switches(COMING, one, other, ZERO, ONE, ONE), limit_of(COMING, one, ONE, ONE)
        is_best_within(COMING, one, ZERO, ONE), switch_polynomial(COMING, one, 3), making_polynomial(COMING, one)
        self.assertEqual((one, other), ([2, 0, 1], [3, 0, 1]))


class TestLimit(unittest.TestCase):
    def test_examples(self):
        self.assertIsNone(limit_of(COMING, (2, 0, 1), (1000, 1), HALF))
        self.assertIsNone(limit_of(COMING, (None,) * 3, THREE, HALF))
        self.assertIsNone(limit_of(EATERS, (0,), (99, 100), HALF))
        # The limit itself, at high and at a middle.
        self.assertEqual(limit_of(EATERS, [0], ONE, THREE), (ZERO, ONE))
        self.assertEqual(limit_of(EATERS, (0,), ONE, (1, 4)), ((3, 4), ONE))
        self.assertEqual(limit_of(EATERS, (0,), TWO, ONE), (ZERO, ONE))
        self.assertEqual(limit_of(EATERS, (0,), TWO, HALF), (HALF, ONE))
        self.assertEqual(limit_of(EATERS, (1,), TWO, HALF), (ZERO, HALF))
        self.assertEqual(limit_of(EATERS, (1,), THREE, (1, 10)), ((9, 32), (3, 8)))

    def test_drawn(self):
        draw = Draw(866)
        none, some = 0, 0
        for _ in range(120):
            works, manner = drawn_manner(draw, True)
            high, width = draw.pick((HALF, ONE, (7, 2))), draw.pick(((1, 30), HALF, (9, 1)))
            told = limit_of(works, list(manner), high, width)
            if plain_row(wasted(works, frac(high)), manner) is not None:
                self.assertIsNone(told)
                none += 1
                continue
            low, top = Fraction(0), frac(high)
            while top - low > frac(width):
                middle = (low + top) / 2
                if plain_row(wasted(works, middle), manner) is not None:
                    low = middle
                else:
                    top = middle
            is_plain(self, told)
            self.assertEqual((frac(told[0]), frac(told[1])), (low, top))
            ratio_kinds(self, told)
            some += 1
        self.assertTrue(min(none, some) > 20, (none, some))

    def test_faults_in_order(self):
        for thing in NO_MANNERS:
            fault(self, BadManner, {}, limit_of, COMING, thing, None, None)
        for thing in NO_RATIOS + (ZERO, (-1, 2)):
            fault(self, BadSpan, {"what": "high"}, limit_of, EATERS, (4,), thing, None)
            fault(self, BadSpan, {"what": "width"}, limit_of, EATERS, (4,), ONE, thing)
        fault(self, CannotRun, {}, limit_of, EATERS, (4,), ONE, ONE)
        fault(self, CannotRun, {}, limit_of, WASTED, (None, None, 3), ONE, ONE)


class TestBestWithin(unittest.TestCase):
    def test_examples(self):
        cases = (((2, 0, 1), ZERO, HALF, True), ((2, 0, 1), ZERO, (51, 100), False), ((3, 0, 1), HALF, ONE, True),
                 ((3, 0, 1), (49, 100), ONE, False), ((2, 0, 1), ONE, (90, 1), True),
                 ((2, 0, 1), (3, 5), (4, 5), False),
                 ((2, 0, 1), ZERO, TWO, False), ((None, 0, 1), ZERO, HALF, False), ((None,) * 3, ZERO, HALF, False))
        for manner, low, high, wanted in cases:
            self.assertIs(is_best_within(COMING, list(manner), low, high), wanted, (manner, low, high))
        self.assertIs(is_best_within(FREE, (0, 1), ZERO, THREE), True)
        self.assertIs(is_best_within(EATERS, (0,), ZERO, HALF), True)
        self.assertIs(is_best_within(EATERS, (3,), ZERO, HALF), True)
        self.assertIs(is_best_within(EATERS, (2,), HALF, (10 ** 9, 1)), True)
        self.assertIs(is_best_within(EATERS, (2,), (49, 100), THREE), False)
        self.assertIs(is_best_within(EATERS, (0,), ZERO, ONE), False)
        # Without goods that can be made the manner of None alone is best.
        for works in (Works(2, ()), Works(2, [Recipe(0, ONE, (ONE, ZERO))])):
            self.assertIs(is_best_within(works, (None, None), ZERO, THREE), True)
        self.assertIs(is_best_within(Works(2, [Recipe(0, ONE, (ONE, ZERO))]), (0, None), ZERO, THREE), False)
        # A recipe of good 0 that eats what cannot be made does not count.
        self.assertIs(is_best_within(EXAMPLE, (0, 2, None), ZERO, HALF), True)

    def test_drawn(self):
        draw = Draw(867)
        seen = {}
        for _ in range(70):
            works = draw.eating_works(draw.whole(1, 3))
            plain = PlainRates(works)
            low = draw.pick((ZERO, (1, 9), HALF))
            high = back(frac(low) + frac(draw.pick(((1, 10), HALF, TWO))))
            for manner in list(plain_manners(works))[:12]:
                told = is_best_within(works, manner, low, high)
                self.assertIs(told, plain.is_best_within(manner, frac(low), frac(high)))
                seen[told] = seen.get(told, 0) + 1
                rates = [frac(low) + (frac(high) - frac(low)) * k / 6 for k in range(7)]
                if told:
                    self.assertTrue(all(is_best(works, manner, rate) for rate in rates[::3]))
        self.assertTrue(min(seen.values()) > 20, seen)

    def test_faults_in_order(self):
        for thing in NO_MANNERS:
            fault(self, BadManner, {}, is_best_within, COMING, thing, None, None)
        for thing in NO_RATIOS + ((-1, 2),):
            fault(self, BadSpan, {"what": "low"}, is_best_within, COMING, (None,) * 3, thing, (-1, 1))
        for thing in NO_RATIOS + (ONE, HALF):
            fault(self, BadSpan, {"what": "high"}, is_best_within, COMING, (None,) * 3, ONE, thing)


if __name__ == "__main__":
    unittest.main()
