import unittest

from leastlabour.judges import (barred_fault, endless_fault, fails_fault, follows_fault, found_fault, greatest_fault,
                                least_fault, singular_fault, solved_fault)
from leastlabour.ratios import ONE, ZERO
from leastlabour.systems import Singular, Solved, solve
from leastlabour.tasks import (Barred, Endless, Fails, Follows, Found, Greatest, Least, find_from, follows_from,
                               least_cost, most_gain)
from tests.drawing import HALF, NO_RATIOS, NO_SEQUENCES, Draw
from tests.test_tasks import BARRED_LEAST, BARRED_ROWS, COSTS, LEAST, ROWS, drawn_task

TWO, THREE = (2, 1), (3, 1)
MINUS = (-1, 1)
NO_WEIGHTS = NO_SEQUENCES + ((), (1,), (1, 1, 1), (1, True), (1, None), (1, ONE), (1, 1.0), (1, "1"))


def no_rows(many):
    """Things that are no rows of so many ratios."""
    return NO_SEQUENCES + ((), (ONE,) * (many - 1), (ONE,) * (many + 1)) + tuple(
        (ONE,) * (many - 1) + (thing,) for thing in NO_RATIOS)


class TestSystems(unittest.TestCase):
    ROWS = ((ONE, ONE), (ONE, MINUS))

    def test_solved(self):
        totals = (THREE, ONE)
        self.assertIsNone(solved_fault(self.ROWS, totals, Solved((TWO, ONE))))
        self.assertIsNone(solved_fault([list(row) for row in self.ROWS], list(totals), Solved([TWO, ONE])))
        for thing in no_rows(2):
            self.assertEqual(solved_fault(self.ROWS, totals, Solved(thing)), "numbers")
        for numbers in ((ONE, TWO), (TWO, TWO), (THREE, ZERO)):
            self.assertEqual(solved_fault(self.ROWS, totals, Solved(numbers)), "row")

    def test_singular(self):
        rows = ((ONE, TWO), (HALF, ONE))
        self.assertIsNone(singular_fault(rows, Singular((2, -1))))
        self.assertIsNone(singular_fault(rows, Singular([2, -1])))
        for thing in NO_WEIGHTS:
            self.assertEqual(singular_fault(rows, Singular(thing)), "way")
        for way in ((0, 0), (4, -2), (-4, 2), (3, 3)):
            self.assertEqual(singular_fault(rows, Singular(way)), "divisor")
        for way in ((-2, 1), (0, -1), (-1, 0), (-1, 1)):
            self.assertEqual(singular_fault(rows, Singular(way)), "sign")
        for way in ((1, -2), (2, 1), (0, 1), (1, 0)):
            self.assertEqual(singular_fault(rows, Singular(way)), "row")

    def test_drawn(self):
        draw = Draw(21)
        for _ in range(100):
            many = draw.whole(1, 6)
            rows = [draw.row(many, -2, 2, 5) for _ in range(many)]
            totals = draw.row(many, -3, 3)
            told = solve(rows, totals)
            if isinstance(told, Solved):
                self.assertIsNone(solved_fault(rows, totals, told))
                numbers = list(told.numbers)
                numbers[draw.whole(0, many - 1)] = (77, 1)
                self.assertEqual(solved_fault(rows, totals, Solved(numbers)), "row")
            else:
                self.assertIsNone(singular_fault(rows, told))
                self.assertEqual(singular_fault(rows, Singular([2 * step for step in told.way])), "divisor")
                self.assertEqual(singular_fault(rows, Singular([-step for step in told.way])), "sign")


class TestNumbers(unittest.TestCase):
    """The words of numbers, in every judge that has them."""

    def judged(self, numbers):
        return [found_fault(ROWS, LEAST, Found(numbers)),
                least_fault(ROWS, LEAST, COSTS, Least(None, numbers, None)),
                endless_fault(ROWS, LEAST, COSTS, Endless(numbers, None)),
                fails_fault(ROWS, LEAST, COSTS, ZERO, Fails(numbers)),
                greatest_fault([[MINUS, MINUS], [(-2, 1), ZERO]], [(-3, 1), (-2, 1)], COSTS,
                               Greatest(None, numbers, None))]

    def test_words(self):
        for thing in no_rows(2):
            self.assertEqual(self.judged(thing), ["numbers"] * 5)
        for numbers in ((MINUS, THREE), (THREE, (-1, 9)), (MINUS, MINUS)):
            self.assertEqual(self.judged(numbers), ["below"] * 5)
        for numbers in ((ZERO, THREE), (ONE, ONE), (ZERO, ZERO)):
            self.assertEqual(self.judged(list(numbers)), ["row"] * 5)
        self.assertEqual(self.judged([ONE, TWO]), [None, "value", "way", "wanted", "value"])


class TestTasks(unittest.TestCase):
    def test_barred(self):
        right = Barred((1, 0, 1))
        self.assertIsNone(barred_fault(BARRED_ROWS, BARRED_LEAST, right))
        self.assertIsNone(barred_fault(BARRED_ROWS, BARRED_LEAST, Barred([1, 0, 1])))
        for thing in NO_SEQUENCES + ((), (1, 0), (1, 0, 1, 0), (1, 0, True), (1, False, 1), (1, -1, 1), (1, ZERO, 1),
                                     (1, None, 1), (1, 0.0, 1)):
            self.assertEqual(barred_fault(BARRED_ROWS, BARRED_LEAST, Barred(thing)), "weights")
        for weights in ((0, 0, 0), (2, 0, 2), (2, 0, 0)):
            self.assertEqual(barred_fault(BARRED_ROWS, BARRED_LEAST, Barred(weights)), "divisor")
        for weights in ((1, 0, 0), (1, 1, 1), (2, 0, 1), (0, 1, 1)):
            self.assertEqual(barred_fault(BARRED_ROWS, BARRED_LEAST, Barred(weights)), "places")
        for weights in ((0, 0, 1), (2, 0, 3)):
            self.assertEqual(barred_fault(BARRED_ROWS, BARRED_LEAST, Barred(weights)), "least")

    def least(self, value, numbers, weights):
        return least_fault(ROWS, LEAST, COSTS, Least(value, numbers, weights))

    def test_least(self):
        self.assertIsNone(self.least((4, 1), (ONE, TWO), (ONE, HALF)))
        self.assertIsNone(self.least((4, 1), [ONE, TWO], [ONE, HALF]))
        for thing in NO_RATIOS + ((3, 1), (5, 1), (-4, 1)):
            self.assertEqual(self.least(thing, (ONE, TWO), None), "value")
        for thing in no_rows(2) + ((ONE, (-1, 2)), (MINUS, ONE)):
            self.assertEqual(self.least((4, 1), (ONE, TWO), thing), "weights")
        for weights in ((ONE, ONE), (TWO, ZERO), (THREE, THREE)):
            self.assertEqual(self.least((4, 1), (ONE, TWO), weights), "places")
        for weights in ((ONE, ZERO), (ZERO, ZERO), (HALF, HALF)):
            self.assertEqual(self.least((4, 1), (ONE, TWO), weights), "least")
        self.assertEqual(self.least((5, 1), (ONE, THREE), (ONE, HALF)), "least")
        self.assertEqual(self.least((5, 1), (ZERO, ZERO), (MINUS,)), "row")
        self.assertEqual(self.least((5, 1), (MINUS, ZERO), (MINUS,)), "below")
        self.assertEqual(self.least(None, None, None), "numbers")

    def greatest(self, value, numbers, weights):
        return greatest_fault(((ONE, ONE), (ONE, ZERO)), (THREE, ONE), (TWO, ONE), Greatest(value, numbers, weights))

    def test_greatest(self):
        right = (4, 1), (ONE, TWO), (ONE, ONE)
        self.assertIsNone(self.greatest(*right))
        self.assertEqual(self.greatest((7, 1), (TWO, THREE), None), "row")
        self.assertEqual(self.greatest((2, 1), (TWO, ZERO), None), "row")
        for thing in NO_RATIOS + ((3, 1), (5, 1)):
            self.assertEqual(self.greatest(thing, (ONE, TWO), None), "value")
        for thing in no_rows(2) + ((ONE, (-1, 2)),):
            self.assertEqual(self.greatest((4, 1), (ONE, TWO), thing), "weights")
        for weights in ((ONE, ZERO), (HALF, TWO), (ZERO, ZERO)):
            self.assertEqual(self.greatest((4, 1), (ONE, TWO), weights), "places")
        for weights in ((TWO, ZERO), (ONE, TWO)):
            self.assertEqual(self.greatest((4, 1), (ONE, TWO), weights), "most")
        self.assertEqual(self.greatest((3, 1), (ONE, ONE), (ONE, ONE)), "most")

    def endless(self, numbers, way):
        return endless_fault(((ONE, MINUS), (ONE, ZERO)), (ZERO, ONE), (MINUS, ZERO), Endless(numbers, way))

    def test_endless(self):
        self.assertIsNone(self.endless((ONE, ZERO), (1, 0)))
        self.assertIsNone(self.endless([TWO, ONE], [1, 1]))
        self.assertEqual(self.endless((ZERO, ZERO), None), "row")
        for thing in NO_WEIGHTS + ((1, -1), (-1, 0)):
            self.assertEqual(self.endless((ONE, ZERO), thing), "way")
        for way in ((0, 0), (2, 0), (2, 2), (0, 2)):
            self.assertEqual(self.endless((ONE, ZERO), way), "divisor")
        for way in ((0, 1), (1, 2)):
            self.assertEqual(self.endless((ONE, ZERO), way), "along")
        rows, costs = ((ONE, ZERO),), (MINUS, ONE)
        for way in ((1, 1), (0, 1), (1, 2)):
            self.assertEqual(endless_fault(rows, (ZERO,), costs, Endless((ONE, ZERO), way)), "costs")
        self.assertIsNone(endless_fault(rows, (ZERO,), costs, Endless((ONE, ZERO), (2, 1))))

    def test_follows(self):
        wanted, total = (TWO, ONE), (4, 1)
        self.assertIsNone(follows_fault(ROWS, LEAST, wanted, total, Follows((ONE, HALF))))
        self.assertIsNone(follows_fault(ROWS, LEAST, wanted, THREE, Follows([ONE, HALF])))
        self.assertIsNone(follows_fault(ROWS, LEAST, wanted, MINUS, Follows((ZERO, ZERO))))
        for thing in no_rows(2) + ((ONE, (-1, 2)),):
            self.assertEqual(follows_fault(ROWS, LEAST, wanted, (9, 1), Follows(thing)), "weights")
        for weights in ((ONE, ONE), (TWO, ZERO)):
            self.assertEqual(follows_fault(ROWS, LEAST, wanted, (9, 1), Follows(weights)), "places")
        for weights in ((ONE, ZERO), (ZERO, ONE), (ZERO, ZERO)):
            self.assertEqual(follows_fault(ROWS, LEAST, wanted, total, Follows(weights)), "least")
        self.assertEqual(follows_fault(ROWS, LEAST, wanted, (9, 2), Follows((ONE, HALF))), "least")

    def test_fails(self):
        self.assertIsNone(fails_fault(ROWS, LEAST, (TWO, ONE), (9, 2), Fails((ONE, TWO))))
        self.assertIsNone(fails_fault(ROWS, LEAST, (TWO, ONE), (9, 2), Fails([ONE, TWO])))
        for total in ((4, 1), THREE, MINUS):
            self.assertEqual(fails_fault(ROWS, LEAST, (TWO, ONE), total, Fails((ONE, TWO))), "wanted")
        self.assertEqual(fails_fault(ROWS, LEAST, (TWO, ONE), (99, 1), Fails((ONE, ONE))), "row")


class TestDrawn(unittest.TestCase):
    def test_all_answers_are_right(self):
        draw = Draw(22)
        for _ in range(300):
            rows, least = drawn_task(draw)
            costs = draw.row(len(rows[0]), draw.pick((-3, 0)), 3, 3)
            total = draw.ratio(-3, 3)
            told = find_from(rows, least)
            judge = {Found: found_fault, Barred: barred_fault}[told.__class__]
            self.assertIsNone(judge(rows, least, told))
            told = least_cost(rows, least, costs)
            if isinstance(told, Barred):
                self.assertIsNone(barred_fault(rows, least, told))
            else:
                judge = {Least: least_fault, Endless: endless_fault}[told.__class__]
                self.assertIsNone(judge(rows, least, costs, told))
            told = follows_from(rows, least, costs, total)
            if not isinstance(told, Barred):
                judge = {Follows: follows_fault, Fails: fails_fault}[told.__class__]
                self.assertIsNone(judge(rows, least, costs, total, told))
            told = most_gain(rows, least, costs)
            if isinstance(told, Greatest):
                self.assertIsNone(greatest_fault(rows, least, costs, told))

    def test_spoilt_answers_are_not(self):
        draw = Draw(23)
        for _ in range(200):
            rows, least = drawn_task(draw)
            costs = draw.row(len(rows[0]), 0, 3, 3)
            told = least_cost(rows, least, costs)
            if not isinstance(told, Least):
                continue
            at = draw.whole(0, len(rows[0]) - 1)
            numbers = list(told.numbers)
            numbers[at] = MINUS
            self.assertEqual(least_fault(rows, least, costs, Least(None, numbers, ())), "below")
            top, bottom = told.value
            spoilt = Least((top + bottom, bottom), told.numbers, ())
            self.assertEqual(least_fault(rows, least, costs, spoilt), "value")
            # No weights at all bring just what is not the value, or break a place.
            weights = list(told.weights)
            at = draw.whole(0, len(rows) - 1)
            top, bottom = weights[at]
            weights[at] = (top + bottom, bottom)
            word = least_fault(rows, least, costs, Least(told.value, told.numbers, weights))
            self.assertIn(word, ("places", "least") if least[at] != ZERO else ("places", None))

    def test_passed_things_stay(self):
        numbers, weights = [ONE, TWO], [ONE, HALF]
        told = Least((4, 1), numbers, weights)
        least_fault([list(row) for row in ROWS], list(LEAST), list(COSTS), told)
        self.assertEqual((numbers, weights), ([ONE, TWO], [ONE, HALF]))
        self.assertIs(told.numbers, numbers)


if __name__ == "__main__":
    unittest.main()
