import unittest

from leastlabour.errors import BadLabour, BadOrder, BadRecipe, BadSize, BadWorks, NoGood, NoRecipe
from leastlabour.ratios import ONE, ZERO
from leastlabour.works import Recipe, Works
from tests.drawing import HALF, NO_RATIOS, NO_SEQUENCES, NO_WHOLES, Draw, back, fault, frac, is_plain

EXAMPLE = (Recipe(0, ONE, (HALF, ZERO, ZERO)), Recipe(0, ONE, (ZERO, ZERO, ONE)), Recipe(1, ONE, (ONE, ZERO, ZERO)))


class TestRecipe(unittest.TestCase):
    def test_attributes(self):
        eats = [HALF, ZERO]
        recipe = Recipe(1, (3, 2), eats)
        eats[0] = ONE
        self.assertEqual((recipe.good, recipe.labour, recipe.eats), (1, (3, 2), (HALF, ZERO)))
        is_plain(self, recipe.eats)
        self.assertEqual(Recipe(good=4, labour=ONE, eats=[ZERO] * 5).eats, (ZERO,) * 5)

    def test_good(self):
        for thing in NO_WHOLES + (-1, 5):
            fault(self, BadRecipe, {"what": "good"}, Recipe, thing, 0, 0)

    def test_labour(self):
        for thing in NO_RATIOS + (ZERO, (-1, 2)):
            fault(self, BadRecipe, {"what": "labour"}, Recipe, 0, thing, ())

    def test_eats(self):
        for thing in NO_SEQUENCES + ((), [], [ZERO] * 6, [(-1, 2)], (ONE, (-1, 1))):
            fault(self, BadRecipe, {"what": "eats"}, Recipe, 4, ONE, thing)
        for thing in NO_RATIOS:
            fault(self, BadRecipe, {"what": "eats"}, Recipe, 4, ONE, [thing])

    def test_place(self):
        for good in range(5):
            self.assertEqual(Recipe(good, ONE, (ZERO,) * (good + 1)).good, good)
        for good in range(1, 5):
            fault(self, BadRecipe, {"what": "place"}, Recipe, good, ONE, (ZERO,) * good)

    def test_equality(self):
        one = Recipe(0, ONE, [ZERO, HALF])
        self.assertTrue(one == Recipe(0, ONE, (ZERO, HALF)))
        self.assertFalse(one != Recipe(0, ONE, (ZERO, HALF)))
        for other in (Recipe(1, ONE, (ZERO, HALF)), Recipe(0, HALF, (ZERO, HALF)), Recipe(0, ONE, (ZERO, ONE)),
                      Recipe(0, ONE, (ZERO,)), (0, ONE, (ZERO, HALF)), None, Works(1, [])):
            self.assertFalse(one == other)
            self.assertTrue(one != other)


class TestWorks(unittest.TestCase):
    def test_attributes_len_and_iteration(self):
        recipes = list(EXAMPLE)
        works = Works(3, recipes)
        recipes.pop()
        self.assertEqual(works.goods, 3)
        self.assertIsInstance(works.recipes, tuple)
        self.assertEqual(works.recipes, EXAMPLE)
        self.assertEqual(len(works), 3)
        self.assertEqual(list(works), list(EXAMPLE))
        self.assertEqual(len(Works(1, ())), 0)

    def test_goods(self):
        for thing in NO_WHOLES + (0, 6, -1):
            fault(self, BadWorks, {"index": 0, "what": "goods"}, Works, thing, None)
        for goods in range(1, 6):
            self.assertEqual(Works(goods, []).goods, goods)

    def test_many(self):
        recipe = Recipe(0, ONE, (ZERO,))
        self.assertEqual(len(Works(1, [recipe] * 12)), 12)
        for thing in NO_SEQUENCES + ([recipe] * 13, [None] * 13):
            fault(self, BadWorks, {"index": 0, "what": "many"}, Works, 1, thing)

    def test_recipe_and_eats_recipe_by_recipe(self):
        good, wrong = Recipe(0, ONE, (ZERO, ZERO)), Recipe(0, ONE, (ZERO,))
        fault(self, BadWorks, {"index": 0, "what": "recipe"}, Works, 2, [None])
        fault(self, BadWorks, {"index": 1, "what": "eats"}, Works, 2, [good, wrong, None])
        fault(self, BadWorks, {"index": 1, "what": "recipe"}, Works, 2, [good, (0, ONE, (ZERO, ZERO)), wrong])
        fault(self, BadWorks, {"index": 0, "what": "eats"}, Works, 1, [good])

    def test_equality(self):
        one = Works(3, EXAMPLE)
        self.assertTrue(one == Works(3, list(EXAMPLE)))
        self.assertFalse(one == Works(3, EXAMPLE[::-1]))
        self.assertFalse(one == Works(3, EXAMPLE[:2]))
        self.assertFalse(Works(2, []) == Works(3, []))
        self.assertFalse(one == EXAMPLE)
        self.assertFalse(one == None)  # noqa: E711
        self.assertTrue(one != Works(3, ()))


class TestMethods(unittest.TestCase):
    def setUp(self):
        self.works = Works(3, EXAMPLE)

    def test_recipes_of(self):
        self.assertEqual([self.works.recipes_of(good) for good in range(3)], [(0, 1), (2,), ()])
        for thing in NO_WHOLES + (3, -1):
            fault(self, NoGood, {"good": thing}, self.works.recipes_of, thing)

    def test_with_recipe(self):
        more = Recipe(2, ONE, (ZERO, ZERO, ZERO))
        self.assertEqual(self.works.with_recipe(more), Works(3, EXAMPLE + (more,)))
        self.assertEqual(len(self.works), 3)
        fault(self, BadWorks, {"index": 3, "what": "recipe"}, self.works.with_recipe, None)
        fault(self, BadWorks, {"index": 3, "what": "eats"}, self.works.with_recipe, Recipe(0, ONE, (ZERO,)))
        full = Works(3, [more] * 12)
        fault(self, BadWorks, {"index": 0, "what": "many"}, full.with_recipe, None)

    def test_without_recipe(self):
        self.assertEqual(self.works.without_recipe(1), Works(3, (EXAMPLE[0], EXAMPLE[2])))
        self.assertEqual(self.works.without_recipe(2), Works(3, EXAMPLE[:2]))
        for thing in NO_WHOLES + (3, -1):
            fault(self, NoRecipe, {"number": thing}, self.works.without_recipe, thing)
        fault(self, NoRecipe, {"number": 0}, Works(1, ()).without_recipe, 0)

    def test_with_labour(self):
        changed = self.works.with_labour(1, (7, 2))
        self.assertEqual(changed, Works(3, (EXAMPLE[0], Recipe(0, (7, 2), EXAMPLE[1].eats), EXAMPLE[2])))
        self.assertEqual([self.works.with_labour(number, HALF).recipes[number].labour for number in range(3)], [HALF] * 3)
        for thing in NO_WHOLES + (3, -1):
            fault(self, NoRecipe, {"number": thing}, self.works.with_labour, thing, None)
        for thing in NO_RATIOS + (ZERO, (-1, 2)):
            fault(self, BadLabour, {}, self.works.with_labour, 0, thing)

    def test_renamed(self):
        changed = self.works.renamed([2, 0, 1])
        self.assertEqual(changed.recipes, (Recipe(2, ONE, (ZERO, ZERO, HALF)), Recipe(2, ONE, (ZERO, ONE, ZERO)),
                                           Recipe(0, ONE, (ZERO, ZERO, ONE))))
        self.assertEqual(self.works.renamed((0, 1, 2)), self.works)
        for thing in NO_SEQUENCES + ((), (0, 1), (0, 1, 2, 3), (0, 1, 1), (0, 1, 3), (-1, 0, 1), (0, True, 2),
                                     (False, 1, 2), ("0", 1, 2), (None, 1, 2), (0.0, 1, 2)):
            fault(self, BadOrder, {}, self.works.renamed, thing)

    def test_renaming_back(self):
        draw = Draw(4)
        for _ in range(60):
            works = draw.works()
            order = sorted(range(works.goods), key=lambda good: draw.whole(0, 999))
            opposite = [order.index(good) for good in range(works.goods)]
            changed = works.renamed(order)
            for old, new in zip(works, changed):
                self.assertEqual(new.good, order[old.good])
                self.assertEqual(new.labour, old.labour)
                self.assertEqual([new.eats[order[good]] for good in range(works.goods)], list(old.eats))
            self.assertEqual(changed.renamed(opposite), works)

    def test_scaled_good(self):
        works = Works(2, [Recipe(0, ONE, (HALF, ONE)), Recipe(1, (2, 1), (ONE, HALF))])
        changed = works.scaled_good(0, (2, 1))
        # Recipe 0 makes two old pieces: all doubled; what is eaten of good 0 is told in pieces of twice the size.
        self.assertEqual(changed.recipes, (Recipe(0, (2, 1), (HALF, (2, 1))), Recipe(1, (2, 1), (HALF, HALF))))
        self.assertEqual(changed.scaled_good(0, HALF), works)
        for thing in NO_WHOLES + (2, -1):
            fault(self, NoGood, {"good": thing}, works.scaled_good, thing, None)
        for thing in NO_RATIOS + (ZERO, (-1, 2)):
            fault(self, BadSize, {}, works.scaled_good, 1, thing)

    def test_scaling_any(self):
        draw = Draw(5)
        for _ in range(60):
            works, size = draw.works(), draw.ratio(1, 4)
            good = draw.whole(0, works.goods - 1)
            for old, new in zip(works, works.scaled_good(good, size)):
                own = frac(size) if old.good == good else 1
                self.assertEqual(new.labour, back(frac(old.labour) * own))
                for place in range(works.goods):
                    less = frac(size) if place == good else 1
                    self.assertEqual(new.eats[place], back(frac(old.eats[place]) * own / less))

    def test_times_labour(self):
        changed = self.works.times_labour((3, 2))
        self.assertEqual([recipe.labour for recipe in changed], [(3, 2)] * 3)
        self.assertEqual([recipe.eats for recipe in changed], [recipe.eats for recipe in EXAMPLE])
        self.assertEqual([recipe.good for recipe in changed], [0, 0, 1])
        for thing in NO_RATIOS + (ZERO, (-1, 2)):
            fault(self, BadSize, {}, self.works.times_labour, thing)

    def test_nothing_changes(self):
        for changed in (self.works.times_labour((3, 2)), self.works.scaled_good(0, HALF), self.works.renamed((1, 0, 2)),
                        self.works.with_labour(0, HALF), self.works.without_recipe(0)):
            self.assertFalse(changed == self.works)
        self.assertEqual(self.works, Works(3, EXAMPLE))
        self.assertEqual(EXAMPLE[0], Recipe(0, ONE, (HALF, ZERO, ZERO)))


if __name__ == "__main__":
    unittest.main()
