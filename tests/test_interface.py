"""The names, parameters, defaults and places that the document's interface lists."""

import importlib
import inspect
import unittest

FUNCTIONS = {
    "ratios": ["is_whole(thing, low=None, high=None)", "is_ratio(thing)", "is_row(thing, many, least=None)",
               "make_ratio(top, bottom=1)", "plus(one, other)", "minus(one, other)", "times(one, other)",
               "over(one, other)", "negative(one)", "compare(one, other)", "sum_of(row)", "least_of(row)",
               "greatest_of(row)", "dot(one, other)", "plus_rows(one, other)", "times_row(row, ratio)",
               "ratio_text(one)", "ratio_of(text)"],
    "wishes": ["check_good(goods, good)", "check_wish(goods, wish)", "check_amounts(works, amounts)",
               "check_lot(goods, lot)", "check_order(goods, order)", "check_manner(works, manner)",
               "net_of(works, amounts)", "serves(works, amounts, wish)", "labour_of(works, amounts)",
               "piece_of(goods, good)", "pieces_of(goods, lot)"],
    "workstext": ["row_text(row)", "recipe_text(recipe)", "works_text(works)", "row_of(goods, text)",
                  "recipe_of(goods, text)", "works_of(text)"],
    "systems": ["solve(rows, totals)"],
    "tasks": ["find_from(rows, least)", "least_cost(rows, least, costs)", "most_gain(rows, most, gains)",
              "follows_from(rows, least, wanted, total)", "needed_rows(rows, least)",
              "barred_lots(rows, least, *, kept=0)"],
    "judges": ["solved_fault(rows, totals, told)", "singular_fault(rows, told)", "found_fault(rows, least, told)",
               "barred_fault(rows, least, told)", "least_fault(rows, least, costs, told)",
               "greatest_fault(rows, most, gains, told)", "endless_fault(rows, least, costs, told)",
               "follows_fault(rows, least, wanted, total, told)", "fails_fault(rows, least, wanted, total, told)"],
    "making": ["can_be_made(works, *, given=(), using=None)", "made_amounts(works, lot, *, given=(), using=None)",
               "made_fault(works, lot, amounts, *, given=(), using=None)", "making_recipes(works)"],
    "selfeating": ["self_eating(works, *, given=(), using=None)",
                   "self_eating_fault(works, told, *, given=(), using=None)", "first_loss(works, weights)",
                   "is_self_eating_lot(works, lot)", "self_eating_lots(works)", "least_self_eating_lots(works)"],
    "gifts": ["frees(works, gifts, lot)", "barring_lot(works, gifts, lot)", "least_gifts(works, lot)"],
    "ownrows": ["manners_of(works)", "check_whole(works, manner)", "makes_all(works, manner)",
                "manner_amounts(works, manner, wish)"],
    "beginnings": ["closure(works, pinch)", "steps_from(works, pinch)", "usable_recipes(works, pinch)",
                   "grown_from(works, pinch)", "begins(works, pinch, wish)", "holding_weights(works, pinch)",
                   "least_pinches(works)", "most_ever(works, stock, good)"],
    "growing": ["play_plan(works, stock, plan)", "growth_plan(works, stock, wish)",
                "plan_fault(works, stock, wish, plan)"],
    "prices": ["check_prices(works, prices)", "gaps_of(works, prices)", "undercuts(works, prices)",
               "is_let(works, prices)", "greatest_prices(works)", "prices_fault(works, prices)",
               "worth_of(works, prices, wish)", "tight_recipes(works)"],
}
CLASSES = {
    "works": ["Recipe(good, labour, eats)", "Works(goods, recipes)"],
    "systems": ["Solved(numbers)", "Singular(way)"],
    "tasks": ["Found(numbers)", "Barred(weights)", "Least(value, numbers, weights)",
              "Greatest(value, numbers, weights)", "Endless(numbers, way)", "Follows(weights)", "Fails(numbers)"],
    "selfeating": ["SelfEating(lot, weights)"],
    "ownrows": ["MannerRow(prices)"],
    "beginnings": ["Ceiling(value, worth, amounts)"],
    "growing": ["Plan(starts, turns)", "Stopped(where, index)", "Held(weights)"],
}
METHODS = {
    ("works", "Works"): ["recipes_of(self, good)", "with_recipe(self, recipe)", "without_recipe(self, number)",
                         "with_labour(self, number, labour)", "renamed(self, order)", "scaled_good(self, good, size)",
                         "times_labour(self, size)"],
}
GENERATORS = {("tasks", "barred_lots"), ("selfeating", "self_eating_lots"), ("ownrows", "manners_of")}


def thing_of(module, name):
    return getattr(importlib.import_module("leastlabour." + module), name)


class TestInterface(unittest.TestCase):
    def test_functions(self):
        for module, shapes in FUNCTIONS.items():
            for shape in shapes:
                name = shape.partition("(")[0]
                thing = thing_of(module, name)
                self.assertTrue(inspect.isfunction(thing), name)
                self.assertEqual(name + str(inspect.signature(thing)), shape)
                self.assertEqual(thing.__module__, "leastlabour." + module)
                self.assertEqual(inspect.isgeneratorfunction(thing), (module, name) in GENERATORS, name)

    def test_classes(self):
        for module, shapes in CLASSES.items():
            for shape in shapes:
                name = shape.partition("(")[0]
                thing = thing_of(module, name)
                self.assertTrue(inspect.isclass(thing), name)
                self.assertEqual(name + str(inspect.signature(thing)), shape)
                self.assertEqual(thing.__module__, "leastlabour." + module)
                self.assertIn("__eq__", vars(thing))

    def test_methods_stand_in_the_class_itself(self):
        for (module, name), shapes in METHODS.items():
            own = vars(thing_of(module, name))
            for shape in shapes:
                method = shape.partition("(")[0]
                self.assertEqual(method + str(inspect.signature(own[method])), shape)
            for method in ("__len__", "__iter__", "__eq__"):
                self.assertIn(method, own)


if __name__ == "__main__":
    unittest.main()
