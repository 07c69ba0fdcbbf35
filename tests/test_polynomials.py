import unittest

from leastlabour.errors import BadPlace, BadPolynomial, IsNought
from leastlabour.polynomials import (add_polynomials, check_polynomial, common_divisor, divide_polynomials,
                                     multiply_polynomials, slope_of, value_at)
from leastlabour.ratios import ONE, ZERO
from leastlabour.wholepolys import common_whole, rest_of, sign_at, whole_value
from tests.drawing import (HALF, NO_RATIOS, NO_SEQUENCES, Draw, back, fault, frac, fracs, is_plain, ratio_kinds)
from tests.plainrates import cut, divided, product, value

TWO, THREE = (2, 1), (3, 1)
LONG = (ONE,) * 24
ONES = {"check": check_polynomial, "slope": slope_of, "value": lambda one: value_at(one, HALF)}
TWOS = {"add": add_polynomials, "multiply": multiply_polynomials, "divide": divide_polynomials,
        "common": common_divisor}


def drawn(draw, longest=6):
    """A polynomial, often with zeros in it."""
    told = [ZERO if draw.chance(1, 3) else draw.ratio(-3, 3, 3) for _ in range(draw.whole(0, longest))]
    while told and told[-1] == ZERO:
        told.pop()
    return tuple(told)


class TestChecks(unittest.TestCase):
    def test_right_ones(self):
        for told, wanted in (((), ()), ([], ()), ((ZERO,), ()), ([ZERO] * 24, ()), ((ONE,), (ONE,)),
                             ([ZERO, HALF, ZERO], (ZERO, HALF)), (LONG, LONG), (LONG[:-1] + (ZERO,), LONG[:-1]),
                             (((-1, 2), ZERO, ZERO), ((-1, 2),))):
            self.assertEqual(check_polynomial(told), wanted)
            self.assertIsInstance(check_polynomial(told), tuple)

    def test_faults(self):
        wrong = NO_SEQUENCES + (LONG + (ONE,), [ZERO] * 25, (ONE, None), HALF, (1, 2), [[1, 2]])
        for call in ONES.values():
            for thing in wrong:
                fault(self, BadPolynomial, {}, call, thing)
            for thing in NO_RATIOS:
                fault(self, BadPolynomial, {}, call, (ONE, thing, ONE))
        for call in TWOS.values():
            for thing in wrong:
                fault(self, BadPolynomial, {}, call, thing, None)
                fault(self, BadPolynomial, {}, call, (ONE,), thing)
            for thing in NO_RATIOS:
                fault(self, BadPolynomial, {}, call, [thing], ())
                fault(self, BadPolynomial, {}, call, (), [thing])
        for thing in wrong:
            fault(self, BadPolynomial, {}, value_at, thing, None)
        for thing in NO_RATIOS:
            fault(self, BadPlace, {}, value_at, (ONE,), thing)
            fault(self, BadPlace, {}, value_at, (), thing)

    def test_passed_lists_stay(self):
        one, other = [ONE, HALF, ZERO], [TWO, ZERO, ONE, ZERO]
        for call in ONES.values():
            call(one)
        for call in TWOS.values():
            call(one, other), call(other, one)
        self.assertEqual((one, other), ([ONE, HALF, ZERO], [TWO, ZERO, ONE, ZERO]))


class TestSums(unittest.TestCase):
    def test_values(self):
        self.assertEqual(value_at((ONE, (-3, 1), TWO), HALF), ZERO)
        self.assertEqual(value_at([ONE, (-3, 1), TWO, ZERO], (1, 3)), (2, 9))
        self.assertEqual(value_at((), HALF), ZERO)
        self.assertEqual(value_at((THREE,), (-7, 5)), THREE)
        self.assertEqual(value_at(LONG, (-1, 1)), ZERO)
        self.assertEqual(value_at(LONG, TWO), (2 ** 24 - 1, 1))

    def test_sums_products_and_slopes(self):
        self.assertEqual(add_polynomials((ONE, TWO), (ZERO, (-2, 1))), (ONE,))
        self.assertEqual(add_polynomials((ONE, TWO), ((-1, 1), (-2, 1))), ())
        self.assertEqual(add_polynomials((ONE,), (ZERO, ZERO, HALF)), (ONE, ZERO, HALF))
        self.assertEqual(multiply_polynomials((ONE, ONE), ((-1, 1), ONE)), ((-1, 1), ZERO, ONE))
        self.assertEqual(multiply_polynomials((), LONG), ())
        self.assertEqual(multiply_polynomials(LONG, [ZERO]), ())
        self.assertEqual(len(multiply_polynomials(LONG, LONG)), 47)
        self.assertEqual(slope_of((ONE, (-3, 1), TWO)), ((-3, 1), (4, 1)))
        self.assertEqual(slope_of((THREE,)), ())
        self.assertEqual(slope_of(()), ())
        self.assertEqual(slope_of((ONE, TWO, ZERO)), (TWO,))

    def test_drawn(self):
        draw = Draw(841)
        for _ in range(200):
            one, other, place = drawn(draw), drawn(draw), draw.ratio(-3, 3)
            for told in (add_polynomials(one, other), multiply_polynomials(one, other), slope_of(one)):
                is_plain(self, told)
                ratio_kinds(self, told)
                self.assertEqual(told, check_polynomial(told))
            self.assertEqual(frac(value_at(one, place)), value(fracs(one), frac(place)))
            both = value(fracs(one), frac(place)), value(fracs(other), frac(place))
            self.assertEqual(frac(value_at(add_polynomials(one, other), place)), sum(both))
            self.assertEqual(frac(value_at(multiply_polynomials(one, other), place)), both[0] * both[1])
            self.assertEqual(fracs(multiply_polynomials(one, other)), product(fracs(one), fracs(other)))
            self.assertEqual(fracs(slope_of(one)), cut([k * entry for k, entry in enumerate(fracs(one))][1:]))


class TestDivision(unittest.TestCase):
    def test_examples(self):
        self.assertEqual(divide_polynomials((ONE, (-3, 1), TWO), ((-1, 1), ONE)), (((-1, 1), TWO), ()))
        self.assertEqual(divide_polynomials((ONE, ONE), (ONE, ONE, ONE)), ((), (ONE, ONE)))
        self.assertEqual(divide_polynomials((), (ONE,)), ((), ()))
        self.assertEqual(divide_polynomials((ONE, TWO), (HALF,)), ((TWO, (4, 1)), ()))
        # Zeros in the quotient and in the rest.
        self.assertEqual(divide_polynomials((THREE, ZERO, ZERO, ONE), (ZERO, ONE)), ((ZERO, ZERO, ONE), (THREE,)))
        self.assertEqual(divide_polynomials([ONE, ZERO, ZERO, ZERO, ONE, ZERO], [ONE, ZERO, ONE]),
                         (((-1, 1), ZERO, ONE), (TWO,)))

    def test_nought(self):
        for one in ((), (ONE,), LONG):
            for nought in ((), [ZERO], [ZERO] * 24):
                fault(self, IsNought, {}, divide_polynomials, one, nought)

    def test_drawn(self):
        draw = Draw(842)
        for _ in range(200):
            one, other = drawn(draw, 8), drawn(draw, 5)
            if not other:
                continue
            told = divide_polynomials(one, other)
            is_plain(self, told)
            quotient, rest = told
            ratio_kinds(self, quotient + rest)
            self.assertTrue(len(rest) < len(other))
            self.assertEqual((quotient, rest), (check_polynomial(quotient), check_polynomial(rest)))
            self.assertEqual(add_polynomials(multiply_polynomials(quotient, other), rest), one)
            self.assertEqual((fracs(quotient), fracs(rest)), divided(fracs(one), fracs(other)))


class TestCommon(unittest.TestCase):
    def test_examples(self):
        self.assertEqual(common_divisor((), ()), ())
        self.assertEqual(common_divisor([ZERO], [ZERO, ZERO]), ())
        self.assertEqual(common_divisor((), (HALF, TWO)), ((1, 4), ONE))
        self.assertEqual(common_divisor((HALF, (-2, 1), ZERO), [ZERO]), ((-1, 4), ONE))
        self.assertEqual(common_divisor((THREE,), (ONE, TWO)), (ONE,))
        self.assertEqual(common_divisor((THREE,), ()), (ONE,))
        self.assertEqual(common_divisor((ONE, (-3, 1), TWO), (ONE, (-1, 1))), ((-1, 1), ONE))
        self.assertEqual(common_divisor((ONE, (-3, 1), TWO), (TWO, ONE)), (ONE,))
        self.assertEqual(common_divisor(LONG, LONG), LONG)

    def test_products_of_known_factors(self):
        draw = Draw(843)
        factors = [((-1, 1), ONE), (HALF, ONE), (ONE, ZERO, ONE), (TWO, (-1, 1)), (ZERO, ONE), ((-2, 1), ZERO, ONE)]
        shared = 0
        for _ in range(120):
            one, other, common = (ONE,), (THREE,), (ONE,)
            for factor in factors:
                many, more = draw.whole(0, 2), draw.whole(0, 2)
                for _ in range(many):
                    one = multiply_polynomials(one, factor)
                for _ in range(more):
                    other = multiply_polynomials(other, factor)
                for _ in range(min(many, more)):
                    common = multiply_polynomials(common, factor)
            size = draw.pick((ONE, (-1, 1), HALF, (-5, 3)))
            told = common_divisor([back(frac(entry) * frac(size)) for entry in one], list(other))
            is_plain(self, told)
            ratio_kinds(self, told)
            self.assertEqual(told, tuple(back(frac(entry) / frac(common[-1])) for entry in common))
            self.assertEqual(told, common_divisor(other, one))
            shared += len(told) > 2
        self.assertTrue(shared > 30, shared)

    def test_drawn(self):
        draw = Draw(844)
        for _ in range(150):
            one, other = drawn(draw), drawn(draw)
            told = common_divisor(one, other)
            if one or other:
                self.assertEqual(told[-1], ONE)
                self.assertEqual(divide_polynomials(one, told)[1], ())
                self.assertEqual(divide_polynomials(other, told)[1], ())
                plain, rest = fracs(one), fracs(other)
                while rest:
                    plain, rest = rest, divided(plain, rest)[1]
                self.assertEqual(len(told), len(plain))


class TestWholes(unittest.TestCase):
    def test_rests(self):
        draw = Draw(845)
        for _ in range(200):
            one = cut([draw.whole(-4, 4) for _ in range(draw.whole(0, 7))])
            other = cut([draw.whole(-4, 4) for _ in range(draw.whole(1, 5))])
            if not other:
                continue
            told, plain = rest_of(one, other), divided(one, other)[1]
            self.assertEqual(len(told), len(plain))
            if told:
                size = plain[-1] / told[-1]
                self.assertTrue(size > 0)
                self.assertEqual(plain, [size * entry for entry in told])
        self.assertEqual(rest_of([6, 4], [2, 2, 2]), [3, 2])
        self.assertEqual(common_whole([], [2, 4]), [2, 4])

    def test_values(self):
        self.assertEqual(whole_value([1, -3, 2], (1, 3)), (2, 9))
        self.assertEqual(whole_value([], (1, 3)), (0, 1))
        self.assertEqual(whole_value([7], (1, 3)), (7, 1))
        self.assertEqual([sign_at([1, -3, 2], place) for place in (ZERO, HALF, (3, 4), ONE, TWO)], [1, 0, -1, 0, 1])


if __name__ == "__main__":
    unittest.main()
