import unittest
from fractions import Fraction

from leastlabour.errors import BadPolynomial, BadSpan, IsNought
from leastlabour.ratios import ONE, ZERO
from leastlabour.roots import count_roots, find_roots, is_never_below, sides_of
from tests.drawing import HALF, NO_RATIOS, NO_SEQUENCES, Draw, back, fault, frac, fracs, is_plain, ratio_kinds
from tests.plainrates import never_below, product, value
from tests.test_polynomials import LONG

TWO, THREE, FOUR = (2, 1), (3, 1), (4, 1)
TWICE = (ONE, (-3, 1), TWO)


def of_roots(*roots, size=1, more=()):
    """The polynomial with just these roots (told as often as they count), times further factors."""
    told = [Fraction(size)]
    for root in roots:
        told = product(told, [-Fraction(root), Fraction(1)])
    for factor in more:
        told = product(told, [Fraction(one) for one in factor])
    return tuple(back(one) for one in told)


class Known:
    """A polynomial whose roots the test put in: ratios, and square roots of wholes that are none."""

    def __init__(self, draw):
        bottom = draw.pick((1, 2, 4, 8, 3))
        self.roots = {}
        for _ in range(draw.whole(0, 4)):
            self.roots[Fraction(draw.whole(-6, 12), bottom)] = draw.whole(1, 3)
        self.squares = [square for square in (2, 3, 5) if draw.chance(1, 4)]
        more = [[-square, 0, 1] for square in self.squares] + ([[1, 0, 1]] if draw.chance(1, 3) else [])
        flat = [root for root, many in self.roots.items() for _ in range(many)]
        self.polynomial = of_roots(*flat, size=draw.pick((1, -1, 3, Fraction(-1, 2))), more=more)
        self.lone = [(root, None) for root in self.roots] + [(None, square) for square in self.squares]
        self.lone += [(None, -square) for square in self.squares]

    def is_above(self, root, place):
        """Whether a root is above a place; it is a ratio, or the square root of a number (below 0: with a minus)."""
        told, square = root
        if told is not None:
            return told > place
        if square > 0:
            return place < 0 or place * place < square
        return place < 0 and place * place > -square

    def is_at(self, root, place):
        return root[0] is not None and root[0] == place

    def many(self, low, high):
        """How many roots lie from low to high, both included."""
        return len([root for root in self.lone if self.is_at(root, low)
                    or self.is_above(root, low) and not self.is_above(root, high)])

    def pieces(self, low, high, width):
        """The pieces as the document tells them, by plain halving."""
        inner = [root for root in self.lone if self.is_above(root, low)
                 and not self.is_above(root, high) and not self.is_at(root, high)]
        return self.halved(inner, low, high, width)

    def halved(self, roots, low, high, width):
        if not roots:
            return []
        if len(roots) == 1 and high - low <= width:
            return [(low, high)]
        middle = (low + high) / 2
        below = [root for root in roots if not self.is_above(root, middle)]
        above = [root for root in roots if self.is_above(root, middle)]
        return self.halved(below, low, middle, width) + self.halved(above, middle, high, width)


class TestCount(unittest.TestCase):
    def test_examples(self):
        for low, high, many in ((ZERO, TWO, 2), (HALF, ONE, 2), (HALF, (3, 4), 1), ((3, 4), ONE, 1), (ONE, TWO, 1),
                                ((3, 5), (4, 5), 0), (ZERO, HALF, 1), (TWO, THREE, 0), ((-5, 1), ZERO, 0)):
            self.assertEqual(count_roots(TWICE, low, high), many, (low, high))
        for constant in ((ONE,), ((-1, 2),), [THREE, ZERO]):
            self.assertEqual(count_roots(constant, ZERO, ONE), 0)
        cubed = of_roots(1, 1, 1)
        self.assertEqual([count_roots(cubed, low, high) for low, high in ((ZERO, ONE), (ONE, TWO), (ZERO, HALF))],
                         [1, 1, 0])
        self.assertEqual(count_roots(((-2, 1), ZERO, ONE), (-2, 1), TWO), 2)
        self.assertEqual(count_roots(((-2, 1), ZERO, ONE), (7, 5), (3, 2)), 1)
        self.assertEqual(count_roots((ONE, ZERO, ONE), (-9, 1), (9, 1)), 0)
        self.assertEqual(count_roots(LONG, (-2, 1), TWO), 1)
        self.assertEqual(count_roots(of_roots(*range(23)), ZERO, (22, 1)), 23)
        self.assertEqual(count_roots(of_roots(*[Fraction(1, 3)] * 23), ZERO, ONE), 1)

    def test_drawn(self):
        draw = Draw(851)
        found = {}
        for _ in range(300):
            known = Known(draw)
            low = draw.ratio(-4, 2, 4)
            high = back(frac(low) + frac(draw.pick((HALF, ONE, THREE, (1, 8), (7, 3)))))
            many = known.many(frac(low), frac(high))
            self.assertEqual(count_roots(list(known.polynomial), low, high), many)
            found[many] = found.get(many, 0) + 1
        self.assertTrue(len(found) > 3, found)


class TestFind(unittest.TestCase):
    def test_examples(self):
        self.assertEqual(find_roots(TWICE, ZERO, TWO, (1, 8)), (((3, 8), HALF), ((7, 8), ONE)))
        self.assertEqual(find_roots(TWICE, ZERO, TWO, THREE), ((ZERO, HALF), (HALF, ONE)))
        # Roots at low and at high are left out; what is wider than the whole is let.
        self.assertEqual(find_roots(TWICE, HALF, ONE, FOUR), ())
        self.assertEqual(find_roots(TWICE, HALF, TWO, FOUR), ((HALF, TWO),))
        self.assertEqual(find_roots(TWICE, ZERO, ONE, FOUR), ((ZERO, ONE),))
        self.assertEqual(find_roots(TWICE, ZERO, ONE, HALF), ((ZERO, HALF),))
        # A root at a middle is in the lower half.
        self.assertEqual(find_roots(((-1, 1), ONE), ZERO, TWO, ONE), ((ZERO, ONE),))
        self.assertEqual(find_roots(((-1, 1), ONE), ZERO, TWO, HALF), ((HALF, ONE),))
        self.assertEqual(find_roots(of_roots(1, 1), ZERO, TWO, TWO), ((ZERO, TWO),))
        self.assertEqual(find_roots((ONE,), ZERO, TWO, TWO), ())
        # A root at high does not count, neither in the last piece of another root.
        self.assertEqual(find_roots(of_roots(Fraction(15, 8), 2), ZERO, TWO, THREE), ((ZERO, TWO),))
        self.assertEqual(find_roots(of_roots(Fraction(15, 8), 2), ZERO, TWO, HALF), (((3, 2), TWO),))
        self.assertEqual(find_roots(((-2, 1), ZERO, ONE), ONE, TWO, (1, 4)), (((5, 4), (3, 2)),))

    def test_small_widths(self):
        width = (1, 10 ** 40)
        ((low, high),) = find_roots(((-2, 1), ZERO, ONE), ZERO, TWO, width)
        self.assertTrue(frac(low) ** 2 < 2 < frac(high) ** 2)
        self.assertTrue(frac(width) / 2 < frac(high) - frac(low) <= frac(width))

    def test_drawn(self):
        draw = Draw(852)
        several = 0
        for _ in range(300):
            known = Known(draw)
            low = draw.ratio(-4, 2, 4)
            high = back(frac(low) + frac(draw.pick((HALF, ONE, THREE, (1, 8), (7, 3), FOUR))))
            width = draw.pick(((1, 16), (1, 3), HALF, ONE, (9, 1)))
            told = find_roots(known.polynomial, low, high, width)
            is_plain(self, told)
            self.assertEqual([(frac(a), frac(b)) for a, b in told], known.pieces(frac(low), frac(high), frac(width)))
            for piece in told:
                ratio_kinds(self, piece)
            several += len(told) > 1
        self.assertTrue(several > 40, several)


class TestSides(unittest.TestCase):
    def test_examples(self):
        self.assertEqual(sides_of(TWICE, ZERO, TWO), (1, -1, 1))
        self.assertEqual(sides_of(TWICE, HALF, ONE), (-1,))
        self.assertEqual(sides_of(TWICE, HALF, TWO), (-1, 1))
        self.assertEqual(sides_of(TWICE, ZERO, ONE), (1, -1))
        self.assertEqual(sides_of(of_roots(1, 1), ZERO, TWO), (1, 1))
        self.assertEqual(sides_of(of_roots(1, 1, size=-1), ZERO, TWO), (-1, -1))
        self.assertEqual(sides_of(of_roots(1, 1, 1), ZERO, TWO), (-1, 1))
        self.assertEqual(sides_of(of_roots(0, 0, 2, 2, 2), ZERO, TWO), (-1,))
        self.assertEqual(sides_of((), ZERO, TWO), (0,))
        self.assertEqual(sides_of([ZERO, ZERO], ZERO, TWO), (0,))
        self.assertEqual(sides_of(((-3, 1),), ZERO, TWO), (-1,))
        self.assertEqual(sides_of((THREE,), ZERO, TWO), (1,))

    def test_never_below(self):
        self.assertIs(is_never_below(TWICE, ZERO, HALF), True)
        self.assertIs(is_never_below(TWICE, ZERO, (51, 100)), False)
        self.assertIs(is_never_below(TWICE, ONE, (9, 1)), True)
        self.assertIs(is_never_below(TWICE, HALF, ONE), False)
        self.assertIs(is_never_below((), ZERO, ONE), True)
        self.assertIs(is_never_below([ZERO], ZERO, ONE), True)
        self.assertIs(is_never_below(of_roots(1, 1), ZERO, TWO), True)
        self.assertIs(is_never_below(of_roots(1, 1, size=-1), ZERO, ONE), False)
        self.assertIs(is_never_below(((-1, 1),), ZERO, ONE), False)

    def test_drawn(self):
        draw = Draw(853)
        seen, alike = {}, 0
        for _ in range(300):
            known = Known(draw)
            low = draw.ratio(-4, 2, 4)
            high = back(frac(low) + frac(draw.pick((HALF, ONE, THREE, (1, 8), (7, 3), FOUR))))
            told = sides_of(list(known.polynomial), low, high)
            self.assertIsInstance(told, tuple)
            # Pieces so small that between them there is a place in each stretch.
            pieces = known.pieces(frac(low), frac(high), Fraction(1, 10 ** 4))
            ends = [frac(low)] + [end for piece in pieces for end in piece] + [frac(high)]
            wanted = []
            for left, right in zip(ends[::2], ends[1::2]):
                places = [left + (right - left) * k / 7 for k in range(1, 7)] if right > left else [left]
                signs = [value(fracs(known.polynomial), place) for place in places]
                wanted.append({(sign > 0) - (sign < 0) for sign in signs if sign})
            if all(len(signs) == 1 for signs in wanted):
                self.assertEqual(list(told), [sign for signs in wanted for sign in signs])
                alike += any(one == other for one, other in zip(told, told[1:]))
            self.assertEqual(len(told), len(pieces) + 1)
            never = is_never_below(known.polynomial, low, high)
            self.assertIs(never, never_below(fracs(known.polynomial), frac(low), frac(high)))
            seen[never] = seen.get(never, 0) + 1
        self.assertTrue(min(seen[True], seen[False], alike) > 30, (seen, alike))


class TestFaults(unittest.TestCase):
    def test_in_order(self):
        calls = (count_roots, sides_of, is_never_below, lambda *told: find_roots(*told, None))
        for call in calls:
            for thing in NO_SEQUENCES + (LONG + (ONE,), (1, 2), [[1, 2]]):
                fault(self, BadPolynomial, {}, call, thing, None, None)
            for thing in NO_RATIOS:
                fault(self, BadPolynomial, {}, call, [thing], None, None)
                fault(self, BadSpan, {"what": "low"}, call, (), thing, None)
                fault(self, BadSpan, {"what": "high"}, call, (), (-2, 1), thing)
            for high in (ONE, HALF, (-2, 1)):
                fault(self, BadSpan, {"what": "high"}, call, (), ONE, high)
        for thing in NO_RATIOS + (ZERO, (-1, 2)):
            fault(self, BadSpan, {"what": "width"}, find_roots, (), ZERO, ONE, thing)
        for nought in ((), [], [ZERO], (ZERO,) * 24):
            fault(self, IsNought, {}, count_roots, nought, ZERO, ONE)
            fault(self, IsNought, {}, find_roots, nought, (-1, 1), ONE, HALF)

    def test_passed_lists_stay(self):
        told = [ONE, (-3, 1), TWO, ZERO]
        count_roots(told, ZERO, ONE), find_roots(told, ZERO, ONE, HALF), sides_of(told, ZERO, ONE)
        is_never_below(told, ZERO, ONE)
        self.assertEqual(told, [ONE, (-3, 1), TWO, ZERO])


if __name__ == "__main__":
    unittest.main()
