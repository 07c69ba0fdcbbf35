import unittest

from leastlabour.errors import BadTask
from leastlabour.ratios import ONE, ZERO
from leastlabour.systems import Singular, Solved, solve
from tests.drawing import HALF, NO_RATIOS, NO_SEQUENCES, Draw, back, fault, frac, fracs, ratio_kinds, summed
from tests.sums import determinant, way_is_right


class TestSolve(unittest.TestCase):
    def check(self, rows, totals):
        told = solve(rows, totals)
        if determinant([fracs(row) for row in rows]) != 0:
            self.assertIs(told.__class__, Solved)
            self.assertIsInstance(told.numbers, tuple)
            self.assertEqual(len(told.numbers), len(rows))
            ratio_kinds(self, told.numbers)
            for row, total in zip(rows, totals):
                self.assertEqual(summed(fracs(row), fracs(told.numbers)), frac(total))
        else:
            self.assertIs(told.__class__, Singular)
            way_is_right(self, rows, told.way)
        return told

    def test_small_ones(self):
        self.assertEqual(solve(((HALF,),), (ONE,)), Solved(((2, 1),)))
        self.assertEqual(solve([[(-1, 2)]], [ONE]), Solved(((-2, 1),)))
        self.assertEqual(solve(((ZERO,),), (ONE,)), Singular((1,)))
        self.assertEqual(solve(((ZERO,),), (ZERO,)), Singular((1,)))
        self.assertEqual(solve(((ONE, ONE), (ONE, (-1, 1))), ((3, 1), ONE)), Solved(((2, 1), ONE)))
        self.assertEqual(solve(((ONE, (2, 1)), (HALF, ONE)), ((2, 1), ONE)), Singular((2, -1)))
        self.assertEqual(solve(((ZERO, ONE), (ONE, ZERO)), ((3, 1), (-5, 2))), Solved(((-5, 2), (3, 1))))

    def test_singular_also_where_totals_have_solutions(self):
        rows = ((ONE, ONE), ((2, 1), (2, 1)))
        self.assertEqual(solve(rows, (ONE, (2, 1))), Singular((1, -1)))
        self.assertEqual(solve(rows, (ONE, (3, 1))), Singular((1, -1)))

    def test_drawn(self):
        draw = Draw(9)
        kinds = {Solved: 0, Singular: 0}
        for _ in range(400):
            many = draw.whole(1, 6)
            zeros = draw.pick((0, 5, 7))
            rows = [list(draw.row(many, -3, 3, zeros)) for _ in range(many)]
            if draw.chance(1, 3) and many > 1:
                rows[draw.whole(0, many - 1)] = list(draw.pick(rows))
            kinds[self.check(rows, list(draw.row(many, -5, 5, 2))).__class__] += 1
        self.assertTrue(min(kinds.values()) > 100, kinds)

    def test_singular_of_low_rank(self):
        draw = Draw(10)
        for _ in range(100):
            many = draw.whole(2, 6)
            base = [draw.row(many, -2, 2, 2) for _ in range(draw.whole(1, many - 1))]
            rows = []
            for _ in range(many):
                parts = [draw.whole(-2, 2) for _ in base]
                rows.append(tuple(back(sum(part * frac(row[k]) for part, row in zip(parts, base))) for k in range(many)))
            self.assertIs(self.check(rows, draw.row(many, -2, 2)).__class__, Singular)

    def test_numbers_of_many_figures(self):
        long = 10 ** 299 + 7
        rows = (((long, 3), (1, long)), ((5, 7), (-long, 2)))
        self.check(rows, ((1, long), (long, 11)))

    def test_faults(self):
        row = (ONE,) * 6
        self.check([row] * 6, [ONE] * 6)
        for thing in NO_SEQUENCES + ((), [], [(ONE,) * 7] * 7):
            fault(self, BadTask, {"what": "many"}, solve, thing, None)
        for thing in NO_SEQUENCES + ((), (ONE,), (ONE,) * 3):
            fault(self, BadTask, {"what": "row"}, solve, ((ONE, ONE), thing), None)
        for thing in NO_RATIOS:
            fault(self, BadTask, {"what": "row"}, solve, ((ONE, thing), (ONE, ONE)), None)
            fault(self, BadTask, {"what": "totals"}, solve, ((ONE, ONE), (ONE, ONE)), (ONE, thing))
        for thing in NO_SEQUENCES + ((), (ONE,), (ONE,) * 3):
            fault(self, BadTask, {"what": "totals"}, solve, ((ONE, ONE), (ONE, ONE)), thing)

    def test_lists_stay(self):
        rows, totals = [[ZERO, ONE], [HALF, ONE]], [ONE, ONE]
        solve(rows, totals)
        self.assertEqual((rows, totals), ([[ZERO, ONE], [HALF, ONE]], [ONE, ONE]))

    def test_results(self):
        for kind, name in ((Solved, "numbers"), (Singular, "way")):
            things = [1, None]
            self.assertIs(getattr(kind(things), name), things)
            self.assertTrue(kind((1, 2)) == kind((1, 2)))
            self.assertFalse(kind((1, 2)) == kind([1, 2]))
            self.assertFalse(kind((1,)) == kind((2,)))
            self.assertFalse(kind((1,)) == (1,))
        self.assertFalse(Solved((1,)) == Singular((1,)))


if __name__ == "__main__":
    unittest.main()
