import unittest
from fractions import Fraction

from leastlabour import ratios
from leastlabour.errors import BadRatio
from leastlabour.ratios import (ONE, ZERO, compare, dot, greatest_of, is_ratio, is_row, is_whole, least_of, make_ratio,
                                minus, negative, over, plus, plus_rows, ratio_of, ratio_text, sum_of, times,
                                times_row)
from tests.drawing import NO_RATIOS, NO_SEQUENCES, NO_WHOLES, Draw, back, fault, frac, ratio_kinds


class TestKinds(unittest.TestCase):
    def test_zero_and_one(self):
        self.assertEqual(ZERO, (0, 1))
        self.assertEqual(ONE, (1, 1))

    def test_is_whole(self):
        for number in (0, 1, -1, 10 ** 400):
            self.assertIs(is_whole(number), True)
        for thing in NO_WHOLES:
            self.assertIs(is_whole(thing), False)
            self.assertIs(is_whole(thing, 0, 1), False)

    def test_is_whole_bounds_are_let(self):
        self.assertIs(is_whole(2, 2), True)
        self.assertIs(is_whole(1, 2), False)
        self.assertIs(is_whole(2, None, 2), True)
        self.assertIs(is_whole(3, None, 2), False)
        self.assertIs(is_whole(0, low=0, high=0), True)
        self.assertIs(is_whole(-1, low=0), False)
        self.assertIs(is_whole(1, high=0), False)
        self.assertIs(is_whole(5, 0, 4), False)

    def test_is_ratio(self):
        for one in ((0, 1), (1, 1), (-7, 2), (10 ** 300, 3), (3, 10 ** 300 + 1)):
            self.assertIs(is_ratio(one), True)
        for thing in NO_RATIOS:
            self.assertIs(is_ratio(thing), False, thing)

    def test_is_row(self):
        for row in ((), [], ((1, 2),), [(1, 2), (-1, 1)]):
            self.assertIs(is_row(row, len(row)), True)
            self.assertIs(is_row(row, len(row) + 1), False)
        self.assertIs(is_row(((1, 2),), 0), False)
        for thing in NO_SEQUENCES:
            self.assertIs(is_row(thing, 2), False)
        for thing in NO_RATIOS:
            self.assertIs(is_row((ONE, thing), 2), False)
            self.assertIs(is_row((ONE, thing), 2, ZERO), False)

    def test_is_row_from_least(self):
        self.assertIs(is_row(((1, 2), (2, 3)), 2, (1, 2)), True)
        self.assertIs(is_row(((1, 2), (2, 5)), 2, (1, 2)), False)
        self.assertIs(is_row(((-1, 2),), 1, ZERO), False)
        self.assertIs(is_row(((-1, 2),), 1, least=(-1, 2)), True)
        self.assertIs(is_row((), 0, ZERO), True)

    def test_make_ratio(self):
        self.assertEqual(make_ratio(6, 4), (3, 2))
        self.assertEqual(make_ratio(6, -4), (-3, 2))
        self.assertEqual(make_ratio(-6, -4), (3, 2))
        self.assertEqual(make_ratio(0, -7), (0, 1))
        self.assertEqual(make_ratio(5), (5, 1))
        self.assertEqual(make_ratio(top=5, bottom=10), (1, 2))

    def test_make_ratio_faults(self):
        for thing in NO_WHOLES:
            fault(self, BadRatio, {"what": "top"}, make_ratio, thing, 0)
            fault(self, BadRatio, {"what": "bottom"}, make_ratio, 1, thing)
        fault(self, BadRatio, {"what": "bottom"}, make_ratio, 1, 0)
        fault(self, BadRatio, {"what": "top"}, make_ratio, (1, 2))


class TestSums(unittest.TestCase):
    def test_against_fractions(self):
        draw = Draw(1)
        for _ in range(400):
            one, other = draw.ratio(-9, 9, 12), draw.ratio(-9, 9, 12)
            a, b = frac(one), frac(other)
            self.assertEqual(plus(one, other), back(a + b))
            self.assertEqual(minus(one, other), back(a - b))
            self.assertEqual(times(one, other), back(a * b))
            self.assertEqual(negative(one), back(-a))
            self.assertEqual(compare(one, other), (a > b) - (a < b))
            if b:
                self.assertEqual(over(one, other), back(a / b))
            ratio_kinds(self, [plus(one, other), minus(one, other), times(one, other), negative(one)])

    def test_compare_is_by_value(self):
        self.assertEqual(compare((1, 3), (1, 2)), -1)
        self.assertEqual(compare((1, 2), (1, 2)), 0)
        self.assertEqual(compare((-1, 3), (-1, 2)), 1)

    def test_over_zero(self):
        fault(self, BadRatio, {"what": "zero"}, over, ONE, ZERO)
        fault(self, BadRatio, {"what": "zero"}, over, ZERO, ZERO)
        self.assertEqual(over(ZERO, (-3, 2)), ZERO)
        self.assertEqual(over(ONE, (-3, 2)), (-2, 3))

    def test_rows_against_fractions(self):
        draw = Draw(2)
        for _ in range(100):
            many = draw.whole(1, 6)
            one, other = draw.row(many, -5, 5, 2), draw.row(many, -5, 5, 2)
            a, b = [frac(x) for x in one], [frac(x) for x in other]
            size = draw.ratio(-3, 3)
            self.assertEqual(sum_of(one), back(sum(a)))
            self.assertEqual(least_of(one), back(min(a)))
            self.assertEqual(greatest_of(one), back(max(a)))
            self.assertEqual(dot(one, other), back(sum(x * y for x, y in zip(a, b))))
            self.assertEqual(plus_rows(one, other), tuple(back(x + y) for x, y in zip(a, b)))
            self.assertEqual(times_row(one, size), tuple(back(x * frac(size)) for x in a))
            self.assertEqual(dot(list(one), list(other)), dot(one, other))

    def test_empty_rows(self):
        self.assertEqual(sum_of(()), ZERO)
        self.assertEqual(dot((), []), ZERO)
        self.assertEqual(plus_rows([], []), ())
        self.assertEqual(times_row([], ONE), ())

    def test_lists_are_taken_and_tuples_returned(self):
        row = [(1, 2), (1, 3)]
        self.assertEqual(plus_rows(row, row), ((1, 1), (2, 3)))
        self.assertEqual(times_row(row, (2, 1)), ((1, 1), (2, 3)))
        self.assertEqual(sum_of(row), (5, 6))
        self.assertEqual(row, [(1, 2), (1, 3)])


class TestTexts(unittest.TestCase):
    def test_ratio_text(self):
        for one, text in (((3, 1), "3"), ((-7, 2), "-7/2"), ((0, 1), "0"), ((1, 10), "1/10"), ((-3, 1), "-3")):
            self.assertEqual(ratio_text(one), text)
            self.assertEqual(ratio_of(text), one)

    def test_reading_back(self):
        draw = Draw(3)
        for _ in range(200):
            one = draw.ratio(-99, 99, 40)
            self.assertEqual(ratio_of(ratio_text(one)), one)
            self.assertEqual(Fraction(ratio_text(one)), frac(one))

    def test_300_figures_are_read_and_301_refused(self):
        long, longer = "1" * 300, "1" * 301
        self.assertEqual(ratio_of(long), (int(long), 1))
        self.assertEqual(ratio_of("-" + long), (-int(long), 1))
        self.assertEqual(ratio_of("1/" + long), (1, int(long)))
        self.assertEqual(ratio_of("-" + long[:-1] + "2/" + long), (-int(long) - 1, int(long)))
        for text in (longer, "-" + longer, "1/" + longer, longer + "/2", "9" * 5000, "1/" + "9" * 5000):
            fault(self, BadRatio, {"what": "text"}, ratio_of, text)

    def test_refused_texts(self):
        for text in ("4/2", "-0", "+1", "01", "3/1", " 1", "", "1 ", "1\n", "-", "/", "1/", "/2", "1/0", "0/1", "0/2",
                     "-01", "1/02", "1/-2", "--1", "1.0", "1e3", "1_0", "1/2/3", "a", "0x1", "- 1", "2/4", "-0/1"):
            fault(self, BadRatio, {"what": "text"}, ratio_of, text)

    def test_what_is_no_string(self):
        for thing in (None, 1, True, (1, 2), b"1", ["1"]):
            fault(self, BadRatio, {"what": "text"}, ratio_of, thing)

    def test_module_names(self):
        for name in ("is_whole", "dot", "ratio_of"):
            self.assertEqual(getattr(ratios, name).__module__, "leastlabour.ratios")


if __name__ == "__main__":
    unittest.main()
