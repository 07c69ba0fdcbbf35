import unittest

from leastlabour.errors import BadManner, CannotMake
from leastlabour.facts import with_labours
from leastlabour.ownrows import MannerRow, makes_all, manners_of
from leastlabour.parts import able_manners, parts_of
from leastlabour.ratios import ONE, ZERO
from leastlabour.works import Recipe, Works
from tests.drawing import HALF, NO_SEQUENCES, Draw, fault, frac, fracs, is_plain, ratio_kinds, summed
from tests.plain import plain_net
from tests.plainfacts import plain_able, plain_parts
from tests.test_making import EXAMPLE
from tests.test_ownrows import MIXED

TWO = (2, 1)
WAYS = Works(2, [Recipe(0, ONE, (ZERO, ZERO)), Recipe(1, ONE, (ZERO, ZERO)), Recipe(1, ONE, (HALF, ZERO))])


class TestAble(unittest.TestCase):
    def test_examples(self):
        self.assertEqual(list(able_manners(WAYS)), [(0, 1), (0, 2)])
        self.assertEqual(list(able_manners(MIXED)), [(0, 1), (0, 3), (2, 1)])
        self.assertEqual(list(able_manners(EXAMPLE)), [(0, 2, None)])
        self.assertEqual(list(able_manners(Works(2, ()))), [(None, None)])

    def test_drawn_works(self):
        draw = Draw(321)
        barred = 0
        for _ in range(120):
            works = draw.works(most=8, zeros=draw.pick((5, 7)), high=2)
            told = list(able_manners(works))
            self.assertEqual(told, plain_able(works))
            self.assertEqual(told, [manner for manner in manners_of(works)
                                    if makes_all(works, manner).__class__ is MannerRow])
            barred += len(told) < len(list(manners_of(works)))
            is_plain(self, tuple(told))
            self.assertEqual(told, list(able_manners(with_labours(works, draw.labours(len(works))))))
        self.assertTrue(barred > 5, barred)


class TestParts(unittest.TestCase):
    def test_examples(self):
        self.assertEqual(parts_of(WAYS, (0, 1)), ((ONE, ZERO, ZERO), (ZERO, ONE, ZERO)))
        self.assertEqual(parts_of(WAYS, [0, 2]), ((ONE, ZERO, ZERO), (HALF, ZERO, ONE)))
        self.assertEqual(parts_of(EXAMPLE, (0, 2, None)), ((TWO, ZERO, ZERO), (TWO, ZERO, ONE), None))
        self.assertEqual(parts_of(Works(2, ()), (None, None)), (None, None))

    def test_drawn_works(self):
        draw = Draw(322)
        for _ in range(80):
            works = draw.works(most=7)
            for manner in plain_able(works)[:6]:
                told = parts_of(works, list(manner))
                is_plain(self, told)
                self.assertEqual([None if part is None else fracs(part) for part in told], plain_parts(works, manner))
                labours = draw.labours(len(works))
                prices = makes_all(with_labours(works, labours), manner).prices
                for good, part in enumerate(told):
                    if part is None:
                        self.assertIsNone(manner[good])
                        continue
                    ratio_kinds(self, part)
                    self.assertTrue(all(amount == ZERO or number in manner for number, amount in enumerate(part)))
                    self.assertEqual(plain_net(works, part), [int(good == other) for other in range(works.goods)])
                    self.assertEqual(frac(prices[good]), summed(fracs(part), fracs(labours)))

    def test_faults(self):
        for thing in NO_SEQUENCES + ((), (0, 2), (None,) * 3, (0, None, None), (1, 2, None), (0, 2, None, None),
                                     (False, 2, None), (3, 2, None), (2, 2, None)):
            fault(self, BadManner, {}, parts_of, EXAMPLE, thing)
        fault(self, CannotMake, {}, parts_of, MIXED, (2, 3))


if __name__ == "__main__":
    unittest.main()
