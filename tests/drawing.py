"""What the tests share: a drawing of their own, sums by fractions, and checks of errors."""

from fractions import Fraction

from leastlabour.joint import JointRecipe, JointWorks
from leastlabour.ratios import ONE, ZERO, make_ratio
from leastlabour.twoworks import TwoRecipe, TwoWorks
from leastlabour.works import Recipe, Works

HALF = (1, 2)
NO_WHOLES = (None, True, False, "1", b"1", 1.0, (1, 1), [1], {}, set(), object())
NO_RATIOS = (None, True, 1, 0, "1", "1/2", 1.5, [1, 2], [0, 1], (2, 4), (0, 2), (3, 3), (1, 0), (1, -1), (-1, -2),
             (True, 1), (1, True), (False, 1), (1.0, 1), ("1", 1), (1,), (1, 2, 3), (), {}, object())
NO_SEQUENCES = (None, 1, True, "ab", b"ab", {}, set(), range(2), iter(()), object())


class Draw:
    """Draws numbers, the same ones in each run."""

    def __init__(self, seed):
        self.state = seed * 7919 + 12345

    def whole(self, low, high):
        """A whole number from low to high."""
        for _ in range(2):
            self.state = (self.state * 6364136223846793005 + 1442695040888963407) % (1 << 64)
        return low + (self.state >> 33) % (high - low + 1)

    def chance(self, of, out):
        """True so many times out of so many."""
        return self.whole(1, out) <= of

    def pick(self, things):
        return things[self.whole(0, len(things) - 1)]

    def ratio(self, low, high, bottom=3):
        """A ratio from low to high."""
        below = self.whole(1, bottom)
        return make_ratio(self.whole(low * below, high * below), below)

    def row(self, many, low, high, zeros=0, bottom=3):
        """A row with `zeros` of ten entries 0 more than the drawing gives."""
        return tuple(ZERO if self.chance(zeros, 10) else self.ratio(low, high, bottom) for _ in range(many))

    def recipe(self, goods, zeros=6, high=1):
        labour = make_ratio(self.whole(1, 8), self.whole(1, 3))
        return Recipe(self.whole(0, goods - 1), labour, self.row(goods, 0, high, zeros))

    def works(self, goods=None, most=7, zeros=6, high=1):
        goods = self.whole(1, 5) if goods is None else goods
        return Works(goods, [self.recipe(goods, zeros, high) for _ in range(self.whole(0, most))])

    def joint_recipe(self, goods, zeros=6):
        """A joint recipe that makes a good or some of them, with few labours, so that some cost alike."""
        makes = [ZERO if self.chance(6, 10) else self.ratio(1, 2, 2) for _ in range(goods)]
        makes[self.whole(0, goods - 1)] = ONE
        return JointRecipe(self.ratio(1, 4, 1), self.row(goods, 0, 1, zeros), makes)

    def joint_works(self, goods=None, most=6, zeros=8):
        goods = self.whole(1, 4) if goods is None else goods
        return JointWorks(goods, [self.joint_recipe(goods, zeros) for _ in range(self.whole(0, most))])

    def two_recipe(self, goods, zeros=6):
        """A recipe of two labours, one of which may be 0."""
        first, second = ZERO if self.chance(1, 4) else self.ratio(1, 6, 2), ZERO if self.chance(1, 4) else ONE
        if second == ZERO and first == ZERO or self.chance(1, 2):
            second = self.ratio(1, 6, 2)
        return TwoRecipe(self.whole(0, goods - 1), first, second, self.row(goods, 0, 1, zeros))

    def two_works(self, goods=None, most=8, zeros=7):
        goods = self.whole(1, 4) if goods is None else goods
        return TwoWorks(goods, [self.two_recipe(goods, zeros) for _ in range(self.whole(0, most))])

    def eating_works(self, goods=None, more=3, zeros=4):
        """Works with a recipe for each good at least, most of which eat a little: they run up to some rate."""
        goods = self.whole(1, 4) if goods is None else goods
        recipes = []
        for good in list(range(goods)) + [self.whole(0, goods - 1) for _ in range(self.whole(0, more))]:
            eats = [ZERO if self.chance(zeros, 10) else make_ratio(self.whole(1, 5), self.pick((6, 8, 12)))
                    for _ in range(goods)]
            recipes.append(Recipe(good, make_ratio(self.whole(1, 8), self.whole(1, 3)), eats))
        return Works(goods, recipes)

    def coming_works(self):
        """Works in which a manner of good 0 is often best at small and at great rates, and not between."""
        twice, base = self.whole(1, 3), self.whole(1, 4)
        # At x = 1 + rate the second recipe of good 0 costs twice * (x - low) * (x - high) more than the first one.
        low = 1 + self.whole(1, 6) * Fraction(1, 4)
        high = low + self.whole(1, 6) * Fraction(1, 4)
        straight, more = twice * (low + high + 1), twice * low * high
        recipes = [Recipe(1, ONE, (ZERO,) * 3), Recipe(2, ONE, (ZERO, ONE, ZERO)),
                   Recipe(0, (base, 1), (ZERO, back(straight), ZERO)),
                   Recipe(0, back(base + more), (ZERO, ZERO, (twice, 1)))]
        if self.chance(1, 2):
            recipes.append(Recipe(0, back(frac(self.ratio(1, 9)) + base), (ZERO, back(straight / 2), ZERO)))
        if self.chance(1, 3):
            recipes.append(Recipe(self.whole(1, 2), (2, 1), (ZERO, ZERO, (1, 9))))
        return Works(3, recipes)

    def labours(self, many):
        """Labours above 0 of so many recipes."""
        return tuple(make_ratio(self.whole(1, 9), self.whole(1, 4)) for _ in range(many))

    def lot(self, goods):
        return tuple(good for good in range(goods) if self.chance(1, 2))


def frac(ratio):
    return Fraction(ratio[0], ratio[1])


def fracs(row):
    return [frac(one) for one in row]


def back(number):
    """A fraction as a ratio."""
    number = Fraction(number)
    return (number.numerator, number.denominator)


def row_of_wholes(*numbers):
    return tuple((number, 1) for number in numbers)


def summed(one, other):
    return sum((a * b for a, b in zip(one, other)), Fraction(0))


def lots_of(many):
    """All lots of so many goods, fewer goods first, then ascending; told by plain counting."""
    lots = [tuple(g for g in range(many) if mask >> g & 1) for mask in range(1 << many)]
    return sorted(lots, key=lambda lot: (len(lot), lot))


def fault(case, error, told, call, *args, **more):
    """Checks that the call raises just this error with just these attributes."""
    try:
        call(*args, **more)
    except ValueError as raised:
        case.assertIs(raised.__class__, error, (args, more))
        case.assertEqual(vars(raised), told)
        for name, thing in told.items():
            case.assertIs(vars(raised)[name].__class__, thing.__class__)
    else:
        case.fail(f"{error.__name__} was not raised for {args} {more}")


def generated_fault(case, error, told, call, *args, **more):
    """The same for a generator, which may raise when it is asked for its first item."""
    fault(case, error, told, lambda: list(call(*args, **more)))


def is_plain(case, thing):
    """Checks that all sequences in a result are tuples."""
    if isinstance(thing, (list, tuple)):
        case.assertIsInstance(thing, tuple)
        for part in thing:
            is_plain(case, part)


def ratio_kinds(case, row):
    """Checks that each entry is a ratio in lowest terms, without asking the program."""
    from math import gcd
    for one in row:
        case.assertIs(one.__class__, tuple)
        top, bottom = one
        case.assertIs(top.__class__, int)
        case.assertIs(bottom.__class__, int)
        case.assertTrue(bottom >= 1 and gcd(top, bottom) == 1, one)


__all__ = ["Draw", "HALF", "NO_RATIOS", "NO_SEQUENCES", "NO_WHOLES", "ONE", "ZERO", "back", "fault", "frac", "fracs",
           "generated_fault", "is_plain", "lots_of", "ratio_kinds", "row_of_wholes", "summed"]
