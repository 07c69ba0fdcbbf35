import unittest

from leastlabour.errors import BadRise, NoRecipe
from leastlabour.feels import feels, stays_until, used_until
from leastlabour.manners import best_manner
from leastlabour.prices import greatest_prices, tight_recipes
from leastlabour.ratios import ONE, ZERO
from leastlabour.serving import serve
from leastlabour.wishes import piece_of
from leastlabour.works import Works
from leastlabour.workstext import works_of
from tests.drawing import HALF, NO_RATIOS, NO_WHOLES, Draw, back, fault, frac, is_plain, ratio_kinds, summed
from tests.plain import plain_greatest, plain_made
from tests.plainfacts import plain_making
from tests.test_buying import LACKING, MADE

TWO, THREE = (2, 1), (3, 1)
LITTLE = frac((1, 10 ** 9))


def drawn_case(draw):
    """Works with recipes, and the number of one."""
    while True:
        works = draw.works(draw.whole(1, 3), 7, 6) if draw.chance(1, 2) else draw.eating_works(draw.whole(1, 3))
        if len(works):
            return works, draw.whole(0, len(works) - 1)


def is_tight(works, number):
    return any(number in numbers for numbers in tight_recipes(works))


class TestUsed(unittest.TestCase):
    def test_example(self):
        self.assertEqual(used_until(MADE, 0), ("until", (5, 8)))
        self.assertEqual(used_until(MADE, 1), ("always", None))
        self.assertEqual(used_until(MADE, 2), ("until", TWO))

    def test_never(self):
        # A recipe that is no making recipe; one whose labour would have to be 0; one that eats more than it makes.
        self.assertEqual(used_until(LACKING, 1), ("never", None))
        works = works_of("goods 2\n0: 1\n1: 1\n1: 9 + 1 of 0\n0: 1 + 1 of 0\n1: 1 + 3 of 1")
        self.assertEqual([used_until(works, number) for number in range(5)],
                         [("always", None), ("until", (10, 1)), ("never", None), ("never", None), ("never", None)])
        alone = works_of("goods 1\n0: 1 + 1 of 0")
        self.assertEqual(used_until(alone, 0), ("never", None))
        self.assertEqual(used_until(works_of("goods 2\n0: 3\n1: 2\n1: 9 + 1/2 of 0"), 2), ("until", HALF))

    def test_equal_recipes(self):
        works = works_of("goods 1\n0: 3\n0: 3")
        self.assertEqual(used_until(works, 0), ("until", THREE))

    def test_on_both_sides(self):
        draw = Draw(911)
        seen = {}
        for _ in range(250):
            works, number = drawn_case(draw)
            told = used_until(works, number)
            self.assertEqual(used_until(works.with_labour(number, draw.ratio(1, 5)), number), told)
            word, labour = told
            seen[word] = seen.get(word, 0) + 1
            good, without = works.recipes[number].good, plain_made(works.without_recipe(number))
            self.assertIs(word == "always", good in plain_made(works) and good not in without)
            for one in ((1, 10 ** 9), ONE, (10 ** 6, 1)):
                if word != "until":
                    self.assertIs(is_tight(works.with_labour(number, one), number), word == "always")
            if word == "until":
                self.assertTrue(frac(labour) > 0)
                self.assertTrue(is_tight(works.with_labour(number, labour), number))
                self.assertTrue(is_tight(works.with_labour(number, back(frac(labour) * frac(HALF))), number))
                self.assertFalse(is_tight(works.with_labour(number, back(frac(labour) + LITTLE)), number))
                row = plain_greatest(works.without_recipe(number))
                eats = [frac(one) for one in works.recipes[number].eats]
                self.assertEqual(frac(labour), row[good] - summed(eats, [one or 0 for one in row]))
            elif word == "never" and number in plain_making(works):
                row = plain_greatest(works.without_recipe(number))
                eats = [frac(one) for one in works.recipes[number].eats]
                self.assertTrue(row[good] - summed(eats, [one or 0 for one in row]) <= 0)
        self.assertTrue(len(seen) == 3 and min(seen.values()) > 20, seen)


class TestStays(unittest.TestCase):
    def test_example(self):
        self.assertEqual(stays_until(MADE, 2), TWO)
        self.assertIsNone(stays_until(MADE, 0))
        self.assertIsNone(stays_until(MADE, 1))

    def test_a_bound_at_the_labour_itself(self):
        works = works_of("goods 1\n0: 3\n0: 3")
        self.assertEqual(stays_until(works, 0), THREE)
        self.assertIsNone(stays_until(works, 1))
        # At the bound recipe 0 is tight as well, and the best manner is another.
        self.assertEqual(best_manner(MADE), (2, 1))
        self.assertEqual(best_manner(MADE.with_labour(2, TWO)), (0, 1))

    def test_no_bound(self):
        self.assertIsNone(stays_until(works_of("goods 1\n0: 1/2 + 1/2 of 0"), 0))
        # The other recipe of good 1 feels the labour as much.
        works = works_of("goods 2\n0: 1\n1: 1 + 1 of 0\n1: 2 + 1 of 0")
        self.assertIsNone(stays_until(works, 0))
        self.assertEqual(stays_until(works, 1), TWO)
        self.assertIsNone(stays_until(LACKING, 1))

    def test_on_both_sides(self):
        draw = Draw(912)
        seen = {"none": 0, "out": 0, "some": 0, "just": 0}
        for _ in range(250):
            works, number = drawn_case(draw)
            manner, told = best_manner(works), stays_until(works, number)
            if number not in manner:
                self.assertIsNone(told)
                seen["out"] += 1
                continue
            own = works.recipes[number].labour
            kept = [entry for entry in manner if entry is not None]

            def stay(labour):
                tight = tight_recipes(works.with_labour(number, labour))
                return all(any(entry in numbers for numbers in tight) for entry in kept)

            if told is None:
                self.assertTrue(all(stay(back(frac(own) + more)) for more in (0, 1, 10 ** 9)))
                seen["none"] += 1
                continue
            ratio_kinds(self, (told,))
            self.assertTrue(frac(told) >= frac(own))
            self.assertTrue(stay(told))
            self.assertTrue(stay(back((frac(told) + frac(own)) / 2)))
            for more in (LITTLE, 1, 1000):
                self.assertFalse(stay(back(frac(told) + more)))
            seen["just" if told == own else "some"] += 1
        self.assertTrue(min(seen["none"], seen["out"], seen["some"]) > 20, seen)


class TestFeels(unittest.TestCase):
    def test_example(self):
        self.assertEqual(feels(MADE, 2, (1, 4)), ((1, 4), (1, 8)))
        # From labour 2 on good 0 is made by recipe 0.
        self.assertEqual(feels(MADE, 2, THREE), (HALF, (1, 4)))
        self.assertEqual(feels(MADE, 2, ZERO), (ZERO, ZERO))
        self.assertEqual(feels(MADE, 0, THREE), (ZERO, ZERO))
        self.assertEqual(feels(LACKING, 0, ONE), (ONE, None, ZERO))
        self.assertEqual(feels(LACKING, 1, ONE), (ZERO, None, ZERO))

    def test_drawn(self):
        draw = Draw(913)
        felt, within = 0, 0
        for _ in range(150):
            works, number = drawn_case(draw)
            rise = draw.pick((ZERO, (1, 5), ONE, (7, 2)))
            told = feels(works, number, rise)
            is_plain(self, told)
            ratio_kinds(self, [one for one in told if one is not None])
            more = works.with_labour(number, back(frac(works.recipes[number].labour) + frac(rise)))
            old, new = plain_greatest(works), plain_greatest(more)
            self.assertEqual([None if one is None else frac(one) for one in told],
                             [None if one is None else other - one for one, other in zip(old, new)])
            self.assertTrue(all(one is None or frac(one) >= 0 for one in told))
            twice = feels(works, number, back(2 * frac(rise)))
            self.assertTrue(all(one is None or frac(other) <= 2 * frac(one) for one, other in zip(told, twice)))
            felt += any(one not in (None, ZERO) for one in told)
            stays = stays_until(works, number)
            if number in best_manner(works):
                if stays is None or frac(works.recipes[number].labour) + frac(rise) <= frac(stays):
                    for good, one in enumerate(told):
                        if one is not None:
                            amount = serve(works, piece_of(works.goods, good)).amounts[number]
                            self.assertEqual(frac(one), frac(rise) * frac(amount))
                            within += 1
        self.assertTrue(min(felt, within) > 30, (felt, within))

    def test_works_are_not_changed(self):
        kept = Works(2, MADE.recipes)
        feels(MADE, 2, ONE), used_until(MADE, 2), stays_until(MADE, 2)
        self.assertEqual(MADE, kept)
        self.assertEqual(greatest_prices(MADE), ((3, 2), (7, 4)))

    def test_faults_in_order(self):
        for thing in NO_WHOLES + (3, -1):
            fault(self, NoRecipe, {"number": thing}, used_until, MADE, thing)
            fault(self, NoRecipe, {"number": thing}, stays_until, MADE, thing)
            fault(self, NoRecipe, {"number": thing}, feels, MADE, thing, None)
        fault(self, NoRecipe, {"number": 0}, used_until, Works(1, ()), 0)
        for thing in NO_RATIOS + ((-1, 2),):
            fault(self, BadRise, {}, feels, MADE, 2, thing)


if __name__ == "__main__":
    unittest.main()
