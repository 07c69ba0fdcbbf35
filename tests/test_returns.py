import unittest

from leastlabour.errors import BadSpan
from leastlabour.ratios import ONE, ZERO
from leastlabour.returns import RateStretch, Returned, find_return, rate_list, return_fault
from leastlabour.works import Recipe, Works
from leastlabour.workstext import works_of
from tests.drawing import HALF, NO_RATIOS, NO_SEQUENCES, Draw, back, fault, frac, is_plain, ratio_kinds
from tests.plain import plain_made, plain_whole
from tests.plainrates import PlainRates, best_at, is_best
from tests.test_switches import COMING, EATERS

TWO, THREE = (2, 1), (3, 1)


def stretch(*told):
    """A stretch of rates, told short."""
    return RateStretch(*told)


class TestRateList(unittest.TestCase):
    def test_example(self):
        told = rate_list(COMING, ZERO, TWO, (1, 16))
        self.assertEqual(told, (stretch(ZERO, HALF, "best", (2, 0, 1)), stretch(HALF, ONE, "best", (3, 0, 1)),
                                stretch(ONE, TWO, "best", (2, 0, 1))))
        # The switches at 1/2 and at 1 are no ends of pieces of these halves.
        told = rate_list(COMING, ZERO, THREE, (1, 16))
        self.assertEqual(told, (stretch(ZERO, (15, 32), "best", (2, 0, 1)), stretch((15, 32), (33, 64), "cut", None),
                                stretch((33, 64), (63, 64), "best", (3, 0, 1)),
                                stretch((63, 64), (33, 32), "cut", None),
                                stretch((33, 32), THREE, "best", (2, 0, 1))))

    def test_widths(self):
        # A width that is as wide as the whole, or wider: the whole is one piece.
        for width in (THREE, (9, 1)):
            self.assertEqual(rate_list(COMING, ZERO, THREE, width), (stretch(ZERO, THREE, "cut", None),))
        # Pieces that are cut stay apart.
        told = rate_list(COMING, ZERO, (6, 5), (3, 5))
        self.assertEqual(told, (stretch(ZERO, (3, 5), "cut", None), stretch((3, 5), (6, 5), "cut", None)))
        # Just a 64th of the whole is let.
        self.assertEqual(rate_list(COMING, ZERO, (64, 1), ONE)[-1], stretch(ONE, (64, 1), "best", (2, 0, 1)))
        fault(self, BadSpan, {"what": "width"}, rate_list, COMING, ZERO, (64, 1), (10 ** 9 - 1, 10 ** 9))
        self.assertEqual(len(rate_list(COMING, ONE, (65, 1), ONE)), 1)
        fault(self, BadSpan, {"what": "width"}, rate_list, COMING, ONE, (65, 1), (99, 100))

    def test_stopped(self):
        eater = works_of("goods 1\n0: 1 + 1/2 of 0")
        self.assertEqual(rate_list(eater, ZERO, HALF, ONE), (stretch(ZERO, HALF, "best", (0,)),))
        self.assertEqual(rate_list(eater, ONE, TWO, ONE), (stretch(ONE, TWO, "stopped", None),))
        self.assertEqual(rate_list(eater, ZERO, ONE, HALF),
                         (stretch(ZERO, HALF, "best", (0,)), stretch(HALF, ONE, "cut", None)))
        # Stopped neighbours become one.
        self.assertEqual(rate_list(eater, ZERO, (4, 1), HALF),
                         (stretch(ZERO, HALF, "best", (0,)), stretch(HALF, ONE, "cut", None),
                          stretch(ONE, (4, 1), "stopped", None)))

    def test_works_without_recipes_and_equal_recipes(self):
        for works in (Works(2, ()), Works(2, [Recipe(0, ONE, (ONE, ZERO))])):
            self.assertEqual(rate_list(works, ZERO, THREE, ONE), (stretch(ZERO, THREE, "best", (None, None)),))
            self.assertIsNone(find_return(works, ZERO, THREE, ONE))
        self.assertEqual(rate_list(EATERS, ZERO, TWO, (1, 8)),
                         (stretch(ZERO, HALF, "best", (0,)), stretch(HALF, TWO, "best", (2,))))
        equal = Works(1, [Recipe(0, ONE, (HALF,))] * 4)
        self.assertEqual(rate_list(equal, ZERO, HALF, HALF), (stretch(ZERO, HALF, "best", (0,)),))

    def test_the_least_manner_that_is_best_at_all_rates(self):
        # Recipe 0 costs the same as recipe 1 at rate 0 alone, and recipe 3 the same as recipe 2 at all rates.
        works = works_of("goods 2\n0: 1 + 1 of 1\n0: 2\n1: 1\n1: 1")
        self.assertEqual(rate_list(works, ZERO, ONE, ONE), (stretch(ZERO, ONE, "best", (1, 2)),))
        # Recipe 0 costs the same at both ends and more between.
        works = works_of("goods 3\n0: 7 + 2 of 2\n0: 1 + 9 of 1\n1: 1\n2: 1 + 1 of 1")
        self.assertEqual(rate_list(works, HALF, ONE, ONE), (stretch(HALF, ONE, "best", (0, 2, 3)),))
        works = works_of("goods 3\n0: 1 + 9 of 1\n0: 7 + 2 of 2\n1: 1\n2: 1 + 1 of 1")
        self.assertEqual(rate_list(works, HALF, ONE, ONE), (stretch(HALF, ONE, "best", (1, 2, 3)),))

    def test_drawn(self):
        draw = Draw(871)
        seen = {"best": 0, "cut": 0, "stopped": 0}
        for _ in range(90):
            works = draw.pick((draw.eating_works(draw.whole(1, 3), 2), draw.coming_works()))
            if len(plain_whole(works)) > 10:
                continue
            low = draw.pick((ZERO, (1, 9), HALF))
            high = back(frac(low) + frac(draw.pick((HALF, TWO, THREE))))
            width = back((frac(high) - frac(low)) * frac(draw.pick(((1, 4), (1, 16), (1, 7)))))
            told = rate_list(works, low, high, width)
            self.assertIsInstance(told, tuple)
            for one in told:
                self.assertIs(one.__class__, RateStretch)
                ratio_kinds(self, (one.low, one.high))
                is_plain(self, one.manner)
                seen[one.word] += 1
            self.assertEqual([(frac(one.low), frac(one.high), one.word, one.manner) for one in told],
                             PlainRates(works).stretches(frac(low), frac(high), frac(width)))
        self.assertTrue(min(seen.values()) > 10, seen)

    def test_faults_in_order(self):
        for call in (rate_list, find_return):
            for thing in NO_RATIOS + ((-1, 2),):
                fault(self, BadSpan, {"what": "low"}, call, COMING, thing, (-3, 1), None)
            for thing in NO_RATIOS + (ONE, HALF):
                fault(self, BadSpan, {"what": "high"}, call, COMING, ONE, thing, None)
            for thing in NO_RATIOS + (ZERO, (-1, 2), (1, 65), (1, 10 ** 9)):
                fault(self, BadSpan, {"what": "width"}, call, COMING, ZERO, ONE, thing)


class TestReturn(unittest.TestCase):
    def test_example(self):
        told = find_return(COMING, ZERO, THREE, (1, 16))
        self.assertIsNone(return_fault(COMING, told))
        self.assertEqual(told.manner, (2, 0, 1))
        # Pieces that are too wide tell nothing: the ends are 0 and 3.
        self.assertIsNone(find_return(COMING, ZERO, THREE, THREE))

    def test_a_good_that_cannot_be_made(self):
        works = works_of("goods 4\n2: 1\n3: 1 + 1 of 2\n0: 1 + 9 of 2\n0: 7 + 2 of 3\n1: 1 + 1 of 1")
        told = find_return(works, ZERO, THREE, (1, 16))
        self.assertEqual(told.manner, (2, None, 0, 1))
        self.assertIsNone(return_fault(works, told))

    def test_ends_at_which_several_manners_are_best(self):
        # (2, 0, 1) is best from 0 to 1/2 and from 1 on: at all of the ends 0, 1/2, 1 and 2.
        self.assertEqual(len(rate_list(COMING, ZERO, TWO, (1, 16))), 3)
        self.assertIsNone(find_return(COMING, ZERO, TWO, (1, 16)))
        told = find_return(COMING, ZERO, (19, 10), (1, 16))
        self.assertIsNone(return_fault(COMING, told))

    def test_drawn(self):
        draw = Draw(872)
        seen = {True: 0, False: 0}
        for _ in range(90):
            works = draw.coming_works() if draw.chance(3, 4) else draw.eating_works(draw.whole(1, 3), 2)
            low = draw.pick((ZERO, (1, 9), HALF))
            high = back(frac(low) + frac(draw.pick((HALF, TWO, THREE))))
            width = back((frac(high) - frac(low)) * frac(draw.pick(((1, 8), (1, 30), (1, 7)))))
            told = find_return(works, low, high, width)
            ends = [frac(low)] + [frac(one.high) for one in rate_list(works, low, high, width)]
            best = [best_at(works, rate) for rate in ends]
            back_again = any(self.comes_back([manner in one for one in best]) for manner in plain_whole(works))
            self.assertIs(told is not None, back_again)
            seen[back_again] += 1
            if told is not None:
                self.check_returned(works, told, ends)
            self.assertEqual(told, find_return(works, low, high, width))
        self.assertTrue(min(seen.values()) > 15, seen)

    def comes_back(self, best):
        """Whether it is True, later False and still later True."""
        if True not in best:
            return False
        rest = best[best.index(True):]
        return False in rest and True in rest[rest.index(False):]

    def check_returned(self, works, told, ends):
        self.assertIs(told.__class__, Returned)
        is_plain(self, told.manner)
        rates = [frac(rate) for rate in (told.first, told.between, told.last)]
        self.assertEqual(rates, sorted(set(rates)))
        self.assertTrue(set(rates) <= set(ends))
        self.assertEqual([is_best(works, told.manner, rate) for rate in rates], [True, False, True])
        self.assertIsNone(return_fault(works, told))

    def test_with_one_good_no_manner_comes_back(self):
        draw = Draw(873)
        several = 0
        for _ in range(60):
            works = draw.eating_works(1, 6, 2)
            if draw.chance(1, 3):
                works = Works(2, [Recipe(0, recipe.labour, recipe.eats + (ZERO,)) for recipe in works])
            self.assertEqual(plain_made(works), (0,) if plain_made(works) else ())
            told = rate_list(works, ZERO, TWO, (1, 16))
            several += len({one.manner for one in told if one.manner}) > 1
            self.assertIsNone(find_return(works, ZERO, TWO, (1, 16)))
        self.assertTrue(several > 10, several)


class TestFault(unittest.TestCase):
    def test_words(self):
        manner = (2, 0, 1)
        self.assertIsNone(return_fault(COMING, Returned(manner, ZERO, (3, 4), TWO)))
        self.assertIsNone(return_fault(COMING, Returned(list(manner), HALF, (3, 4), ONE)))
        self.assertIsNone(return_fault(COMING, Returned(manner, (49, 100), (999, 1000), ONE)))
        for thing in NO_SEQUENCES + ((), (2, 0), (None, 0, 1), (None,) * 3, (3, 0), (0, 0, 1), (2, 0, 4)):
            self.assertEqual(return_fault(COMING, Returned(thing, None, None, None)), "manner")
            self.assertEqual(return_fault(COMING, Returned(thing, ZERO, (3, 4), TWO)), "manner")
        for thing in NO_RATIOS + ((-1, 2),):
            self.assertEqual(return_fault(COMING, Returned(manner, thing, (3, 4), TWO)), "rates")
            self.assertEqual(return_fault(COMING, Returned(manner, ZERO, thing, TWO)), "rates")
            self.assertEqual(return_fault(COMING, Returned(manner, ZERO, (3, 4), thing)), "rates")
        for rates in ((TWO, (3, 4), ZERO), (ZERO, ZERO, TWO), (ZERO, (3, 4), (3, 4)), ((3, 4), HALF, TWO),
                      (ZERO, TWO, ONE), (ZERO, ZERO, ZERO)):
            self.assertEqual(return_fault(COMING, Returned(manner, *rates)), "rates")
        for rates, word in ((((51, 100), (3, 4), TWO), "first"), (((51, 100), TWO, THREE), "first"),
                            ((ZERO, HALF, TWO), "between"), ((ZERO, (1, 4), (3, 4)), "between"),
                            ((ZERO, (3, 4), (99, 100)), "last"), ((ZERO, (51, 100), (3, 5)), "last")):
            self.assertEqual(return_fault(COMING, Returned(manner, *rates)), word, rates)

    def test_manners_that_cannot_make(self):
        self.assertEqual(return_fault(EATERS, Returned((4,), ZERO, HALF, ONE)), "first")
        self.assertEqual(return_fault(EATERS, Returned((0,), ZERO, ONE, TWO)), "last")
        self.assertEqual(return_fault(EATERS, Returned((1,), ZERO, HALF, ONE)), "first")
        self.assertEqual(return_fault(EATERS, Returned((3,), ZERO, HALF, ONE)), "between")

    def test_drawn(self):
        draw = Draw(874)
        seen = {}
        for _ in range(150):
            works = draw.coming_works()
            manner = draw.pick(plain_whole(works))
            rates = [draw.ratio(0, 3, 6) for _ in range(3)]
            if draw.chance(4, 5):
                rates = sorted(rates, key=frac)
            told = return_fault(works, Returned(manner, *rates))
            wanted = None
            if sorted({frac(rate) for rate in rates}) != [frac(rate) for rate in rates]:
                wanted = "rates"
            else:
                for word, rate, best in zip(("first", "between", "last"), rates, (True, False, True)):
                    if wanted is None and is_best(works, manner, frac(rate)) != best:
                        wanted = word
            self.assertEqual(told, wanted)
            seen[told] = seen.get(told, 0) + 1
        self.assertTrue(len(seen) >= 4, seen)


if __name__ == "__main__":
    unittest.main()
