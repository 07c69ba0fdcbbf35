import unittest

from leastlabour.errors import BadManner, CannotMake
from leastlabour.manners import all_best, best_manner, improved, steps_to_best
from leastlabour.ownrows import MannerRow, makes_all
from leastlabour.prices import greatest_prices, tight_recipes
from leastlabour.ratios import ONE, ZERO
from leastlabour.works import Recipe, Works
from tests.drawing import (HALF, NO_SEQUENCES, Draw, back, fault, frac, fracs, generated_fault, is_plain, summed)
from tests.plain import plain_greatest, plain_row, plain_whole
from tests.test_making import EXAMPLE
from tests.test_ownrows import MIXED
from tests.test_prices import MORE, PAIR
from tests.test_selfeating import RING

TWO = (2, 1)
# Each good by two recipes that cost alike.
TIED = Works(2, [Recipe(1, TWO, (ZERO, ZERO)), Recipe(0, ONE, (ZERO, ZERO)), Recipe(1, ONE, (ONE, ZERO)),
                 Recipe(0, HALF, (HALF, ZERO)), Recipe(0, TWO, (ZERO, ZERO))])


def tied_works(draw):
    """Works of few labours, so that several manners are often best."""
    goods = draw.whole(1, 4)
    recipes = []
    for _ in range(draw.whole(0, 8)):
        eats = tuple(HALF if draw.chance(2, 10) else ZERO for _ in range(goods))
        recipes.append(Recipe(draw.whole(0, goods - 1), draw.pick((ONE, HALF, TWO)), eats))
    return Works(goods, recipes)


def any_works(draw):
    return tied_works(draw) if draw.chance(1, 2) else draw.works(most=9, zeros=draw.pick((6, 7)))


def able(works):
    """All manners of the works that make all their goods, each with its own row as fractions."""
    told = [(manner, plain_row(works, manner)) for manner in plain_whole(works)]
    return [(manner, row) for manner, row in told if row is not None]


def plain_best(works):
    """All manners whose own row is the least one, ascending."""
    least = plain_greatest(works)
    return [manner for manner, row in able(works) if all(row[good] == least[good] for good in row)]


def plain_undercuts(works, row):
    """The numbers of the recipes that undercut a row, told good by good for those that can be made."""
    found = []
    for number, recipe in enumerate(works):
        eaten = {good: frac(many) for good, many in enumerate(recipe.eats) if many != ZERO}
        if recipe.good in row and set(eaten) <= set(row):
            cost = frac(recipe.labour) + sum(many * row[good] for good, many in eaten.items())
            if cost < row[recipe.good]:
                found.append(number)
    return found


def plain_improved(works, manner, row):
    numbers = plain_undercuts(works, row)
    if not numbers:
        return None
    changed = list(manner)
    for good in row:
        own = [number for number in numbers if works.recipes[number].good == good]
        changed[good] = min(own, default=manner[good])
    return tuple(changed)


class TestBest(unittest.TestCase):
    def test_example(self):
        self.assertEqual(best_manner(MORE), (2, 1))
        self.assertEqual(list(all_best(MORE)), [(2, 1)])
        self.assertEqual(best_manner(EXAMPLE), (0, 2, None))

    def test_ties(self):
        self.assertEqual(tight_recipes(TIED), ((1, 3), (0, 2)))
        self.assertEqual(best_manner(TIED), (1, 0))
        self.assertEqual(list(all_best(TIED)), [(1, 0), (1, 2), (3, 0), (3, 2)])

    def test_without_a_good_that_can_be_made(self):
        for works in (Works(3, ()), Works(3, [Recipe(0, ONE, (ONE, ZERO, ZERO))])):
            self.assertEqual(best_manner(works), (None,) * 3)
            self.assertEqual(list(all_best(works)), [(None,) * 3])
            self.assertIsNone(improved(works, [None] * 3))
            self.assertEqual(list(steps_to_best(works, [None] * 3)), [(None,) * 3])

    def test_drawn_works(self):
        draw = Draw(201)
        several = 0
        for _ in range(200):
            works = any_works(draw)
            told = list(all_best(works))
            is_plain(self, tuple(told))
            self.assertEqual(told, plain_best(works))
            self.assertEqual(list(all_best(works)), told)
            self.assertEqual(best_manner(works), told[0])
            self.assertIsInstance(best_manner(works), tuple)
            several += len(told) > 1
            row = greatest_prices(works)
            for manner in told[:3]:
                self.assertEqual(makes_all(works, manner), MannerRow(row))
        self.assertTrue(several > 30, several)

    def test_recipes_that_are_alike(self):
        recipe = Recipe(0, ONE, (HALF,))
        works = Works(1, [recipe] * 12)
        self.assertEqual(list(all_best(works)), [(number,) for number in range(12)])
        self.assertEqual(best_manner(works), (0,))

    def test_labours_of_many_figures(self):
        long = 10 ** 280
        works = Works(2, [Recipe(0, (long + 1, long), (ZERO, ZERO)), Recipe(0, ONE, (ZERO, ZERO)),
                          Recipe(1, (long, 1), (HALF, ZERO)), Recipe(1, (long * 2 + 1, 2), (ZERO, ZERO))])
        self.assertEqual(list(all_best(works)), [(1, 2), (1, 3)])


class TestImproved(unittest.TestCase):
    def test_example(self):
        self.assertEqual(improved(MORE, (0, 1)), (2, 1))
        self.assertEqual(improved(MORE, [0, 1]), (2, 1))
        self.assertIsNone(improved(MORE, (2, 1)))
        self.assertEqual(list(steps_to_best(MORE, [0, 1])), [(0, 1), (2, 1)])
        self.assertEqual(list(steps_to_best(MORE, (2, 1))), [(2, 1)])
        self.assertIsNone(improved(PAIR, (0, 1)))

    def test_a_best_manner_with_other_numbers_stays(self):
        self.assertIsNone(improved(TIED, (3, 2)))
        self.assertEqual(list(steps_to_best(TIED, (3, 2))), [(3, 2)])

    def test_of_several_recipes_that_undercut_the_least_number_counts(self):
        works = Works(1, [Recipe(0, (5, 1), (ZERO,)), Recipe(0, (3, 1), (ZERO,)), Recipe(0, TWO, (ZERO,)),
                          Recipe(0, (4, 1), (ZERO,))])
        self.assertEqual(improved(works, (0,)), (1,))
        self.assertEqual(list(steps_to_best(works, (0,))), [(0,), (1,), (2,)])
        self.assertEqual(list(steps_to_best(works, (3,))), [(3,), (1,), (2,)])

    def test_drawn_works(self):
        draw = Draw(202)
        steps = [0, 0, 0, 0, 0, 0]
        for _ in range(100):
            works = any_works(draw)
            manners = able(works)
            rows = dict(manners)
            least = plain_greatest(works)
            for manner, row in manners:
                self.assertTrue(all(row[good] >= least[good] for good in row))
                told = improved(works, list(manner))
                self.assertEqual(told, plain_improved(works, manner, row))
                if told is None:
                    self.assertEqual(list(row.values()), [price for price in least if price is not None])
                    continue
                is_plain(self, told)
                self.assertIn(told, rows)
                for good in row:
                    self.assertTrue(rows[told][good] <= row[good])
                    self.assertTrue(told[good] == manner[good] or rows[told][good] < row[good])
            for manner, _ in manners[:4]:
                path = list(steps_to_best(works, list(manner)))
                steps[len(path) - 1] += 1
                self.assertEqual(path[0], manner)
                for one, other in zip(path, path[1:]):
                    self.assertEqual(improved(works, one), other)
                self.assertIsNone(improved(works, path[-1]))
                self.assertEqual(path, list(steps_to_best(works, manner)))
        self.assertTrue(steps[2] > 10, steps)

    def test_no_manners(self):
        wrong = NO_SEQUENCES + ((), (0, 2), (None,) * 3, (0, None, None), (None, 2, None), (1, 2, None), (0, 2, 2),
                                (0, 2, None, None), (False, 2, None), (3, 2, None), (2, 0, None), ("0", 2, None))
        for thing in wrong:
            fault(self, BadManner, {}, improved, EXAMPLE, thing)
            generated_fault(self, BadManner, {}, steps_to_best, EXAMPLE, thing)
        # Both goods of the ring can only be made apart from it; its own manner is not of the works.
        fault(self, BadManner, {}, improved, RING, (0, 1, 2))

    def test_manners_that_cannot_make(self):
        fault(self, CannotMake, {}, improved, MIXED, (2, 3))
        fault(self, CannotMake, {}, improved, MIXED, [2, 3])
        generated_fault(self, CannotMake, {}, steps_to_best, MIXED, (2, 3))
        works = Works(1, [Recipe(0, ONE, [TWO]), Recipe(0, (5, 1), [ZERO])])
        fault(self, CannotMake, {}, improved, works, (0,))
        self.assertIsNone(improved(works, (1,)))

    def test_drawn_manners_that_cannot_make(self):
        draw = Draw(203)
        seen = 0
        for _ in range(100):
            works = draw.works(most=8, zeros=5, high=2)
            for manner in plain_whole(works):
                if plain_row(works, manner) is None:
                    seen += 1
                    fault(self, CannotMake, {}, improved, works, manner)
        self.assertTrue(seen > 10, seen)

    def test_passed_lists_stay(self):
        manner = [0, 1]
        improved(MORE, manner), list(steps_to_best(MORE, manner))
        self.assertEqual(manner, [0, 1])


class TestLedAlong(unittest.TestCase):
    def test_renamed(self):
        draw = Draw(204)
        for _ in range(60):
            works = any_works(draw)
            order = sorted(range(works.goods), key=lambda good: draw.whole(0, 999))
            wanted = []
            for manner in all_best(works):
                moved = [None] * works.goods
                for good, entry in enumerate(manner):
                    moved[order[good]] = entry
                wanted.append(tuple(moved))
            told = list(all_best(works.renamed(order)))
            self.assertEqual(set(told), set(wanted))
            self.assertEqual(len(told), len(wanted))

    def test_scaled_and_times(self):
        draw = Draw(205)
        for _ in range(60):
            works, size = any_works(draw), back(frac(draw.ratio(1, 9)) / 5)
            good = draw.whole(0, works.goods - 1)
            for changed in (works.scaled_good(good, size), works.times_labour(size)):
                self.assertEqual(list(all_best(changed)), list(all_best(works)))
                for manner, _ in able(works)[:2]:
                    self.assertEqual(list(steps_to_best(changed, manner)), list(steps_to_best(works, manner)))


class TestGreatest(unittest.TestCase):
    def test_a_wish_is_worth_the_same_by_all_best_manners_and_more_by_others(self):
        draw = Draw(206)
        for _ in range(40):
            works = tied_works(draw)
            best = list(all_best(works))
            wish = tuple(ONE if price is not None else ZERO for price in greatest_prices(works))
            least = summed([price or 0 for price in plain_greatest(works)], fracs(wish))
            for manner, row in able(works):
                cost = sum(row.values())
                self.assertEqual(cost == least, manner in best)
                self.assertTrue(cost >= least)


if __name__ == "__main__":
    unittest.main()
