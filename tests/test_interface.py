"""The names, parameters, defaults and places that the document's interface lists."""

import importlib
import inspect
import unittest

FUNCTIONS = {
    "ratios": ["is_whole(thing, low=None, high=None)", "is_ratio(thing)", "is_row(thing, many, least=None)",
               "make_ratio(top, bottom=1)", "plus(one, other)", "minus(one, other)", "times(one, other)",
               "over(one, other)", "negative(one)", "compare(one, other)", "sum_of(row)", "least_of(row)",
               "greatest_of(row)", "dot(one, other)", "plus_rows(one, other)", "times_row(row, ratio)",
               "ratio_text(one)", "ratio_of(text)"],
    "wishes": ["check_good(goods, good)", "check_wish(goods, wish)", "check_amounts(works, amounts)",
               "check_lot(goods, lot)", "check_order(goods, order)", "check_manner(works, manner)",
               "net_of(works, amounts)", "serves(works, amounts, wish)", "labour_of(works, amounts)",
               "piece_of(goods, good)", "pieces_of(goods, lot)"],
    "workstext": ["row_text(row)", "recipe_text(recipe)", "works_text(works)", "row_of(goods, text)",
                  "recipe_of(goods, text)", "works_of(text)"],
    "systems": ["solve(rows, totals)"],
    "tasks": ["find_from(rows, least)", "least_cost(rows, least, costs)", "most_gain(rows, most, gains)",
              "follows_from(rows, least, wanted, total)", "needed_rows(rows, least)",
              "barred_lots(rows, least, *, kept=0)"],
    "judges": ["solved_fault(rows, totals, told)", "singular_fault(rows, told)", "found_fault(rows, least, told)",
               "barred_fault(rows, least, told)", "least_fault(rows, least, costs, told)",
               "greatest_fault(rows, most, gains, told)", "endless_fault(rows, least, costs, told)",
               "follows_fault(rows, least, wanted, total, told)", "fails_fault(rows, least, wanted, total, told)"],
    "making": ["can_be_made(works, *, given=(), using=None)", "made_amounts(works, lot, *, given=(), using=None)",
               "made_fault(works, lot, amounts, *, given=(), using=None)", "making_recipes(works)"],
    "selfeating": ["self_eating(works, *, given=(), using=None)",
                   "self_eating_fault(works, told, *, given=(), using=None)", "first_loss(works, weights)",
                   "is_self_eating_lot(works, lot)", "self_eating_lots(works)", "least_self_eating_lots(works)"],
    "gifts": ["frees(works, gifts, lot)", "barring_lot(works, gifts, lot)", "least_gifts(works, lot)"],
    "ownrows": ["manners_of(works)", "check_whole(works, manner)", "makes_all(works, manner)",
                "manner_amounts(works, manner, wish)"],
    "beginnings": ["closure(works, pinch)", "steps_from(works, pinch)", "usable_recipes(works, pinch)",
                   "grown_from(works, pinch)", "begins(works, pinch, wish)", "holding_weights(works, pinch)",
                   "least_pinches(works)", "most_ever(works, stock, good)"],
    "growing": ["play_plan(works, stock, plan)", "growth_plan(works, stock, wish)",
                "plan_fault(works, stock, wish, plan)"],
    "prices": ["check_prices(works, prices)", "gaps_of(works, prices)", "undercuts(works, prices)",
               "is_let(works, prices)", "greatest_prices(works)", "prices_fault(works, prices)",
               "worth_of(works, prices, wish)", "tight_recipes(works)"],
    "manners": ["best_manner(works)", "all_best(works)", "improved(works, manner)", "steps_to_best(works, manner)"],
    "serving": ["least_labour(works, wish)", "serve(works, wish)", "served_fault(works, wish, served)",
                "most_times(works, wish, labour)"],
    "joint": ["as_joint(works)", "joint_net(works, amounts)", "joint_serves(works, amounts, wish)",
              "joint_undercut(works, prices)"],
    "jointserve": ["joint_least(works, wish)", "joint_made(works)", "joint_served_fault(works, wish, served)",
                   "not_served_fault(works, wish, told)"],
    "pricerows": ["price_rows(works)", "span_at(works, wish, good)"],
    "together": ["separate_prices(works)", "adds_up(works)", "together_pairs(works)", "apart_groups(works)",
                 "gain_of(works, one, other)"],
    "burdens": ["fair_burdens(works, wish)", "burdens_fault(works, wish, burdens)"],
    "twoworks": ["at_share(two, share)", "own_needs(two, manner)"],
    "shares": ["share_list(two)", "cuts_of(two)", "prices_at(two, share)", "stretches_fault(two, stretches)"],
    "frontiers": ["frontier_of(two, wish)", "least_second(two, wish, first)", "least_first(two, wish, second)",
                  "can_serve(two, wish, first, second)", "two_served_fault(two, wish, first, second, told)",
                  "too_little_fault(two, wish, first, second, told)"],
    "trade": ["two_lands(one, other)", "trade_gain(one, other, wish, other_wish)", "compare_lands(one, other)"],
    "facts": ["check_labours(works, labours)", "check_facts(works, facts)", "with_labours(works, labours)",
              "first_broken(facts, labours)", "some_labours(works, facts)"],
    "parts": ["able_manners(works)", "parts_of(works, manner)"],
    "unknown": ["best_task(works, facts, manner)", "ever_best(works, facts, manner)", "best_ever(works, facts)"],
    "claims": ["check_claim(works, claim)", "true_at(works, labours, claim)",
               "claim_tasks(works, facts, claim, holds)", "decide(works, facts, claim)", "sure_pairs(works, facts)",
               "standing(works, facts, recipe)"],
    "bounds": ["ratio_tasks(works, facts, good, other)", "greatest_ratio(works, facts, good, other)",
               "price_range(works, facts, good, other)", "regret_tasks(works, facts, manner, wish)",
               "regret(works, facts, manner, wish)", "safest_manner(works, facts, wish)"],
    "unknownjudges": ["decided_fault(works, facts, claim, told)", "ratio_fault(works, facts, good, other, told)",
                      "regret_fault(works, facts, manner, wish, told)"],
    "rates": ["check_rate(rate)", "at_rate(works, rate)", "does_run(works, rate)", "runs_up_to(works, parts, most)",
              "own_prices(works, manner, rate)"],
    "worths": ["parted_price(works, manner, wish, rate)", "date_labour(works, manner, wish, steps)"],
    "polynomials": ["check_polynomial(polynomial)", "value_at(polynomial, place)", "add_polynomials(one, other)",
                    "multiply_polynomials(one, other)", "slope_of(polynomial)", "common_divisor(one, other)",
                    "divide_polynomials(one, other)"],
    "roots": ["count_roots(polynomial, low, high)", "find_roots(polynomial, low, high, width)",
              "sides_of(polynomial, low, high)", "is_never_below(polynomial, low, high)"],
    "switches": ["making_polynomial(works, manner)", "price_polynomial(works, manner, good)",
                 "switch_polynomial(works, manner, recipe)", "find_switches(works, manner, other, low, high, width)",
                 "limit_of(works, manner, high, width)", "is_best_within(works, manner, low, high)"],
    "returns": ["rate_list(works, low, high, width)", "find_return(works, low, high, width)",
                "return_fault(works, returned)"],
    "buying": ["check_market(goods, market)", "with_market(works, market)", "made_or_bought(works, market)",
               "bought_until(works, market, good)", "buys_nothing(works, market)"],
    "feels": ["used_until(works, recipe)", "stays_until(works, recipe)", "feels(works, recipe, rise)"],
    "likeworks": ["unlike_wish(one, other)", "dearer_good(one, other)", "joined_works(one, other)",
                  "joined_gain(one, other)", "idle_recipes(works)", "bare_works(works)"],
    "changes": ["apply_changes(works, changes)", "numbers_behind(works, changes)"],
    "mends": ["all_choices(size)", "first_unmet(works, pool, choice, goals)", "find_mends(works, pool, goals)",
              "mends_fault(works, pool, goals, mends)", "find_spoilers(works, pool, goals)"],
    "room": ["room_for(works, good, eats)", "labour_limit(works, number, good, ratio)"],
    "alltexts": ["two_text(two)", "joint_text(works)", "two_of(text)", "joint_of(text)"],
}
CLASSES = {
    "works": ["Recipe(good, labour, eats)", "Works(goods, recipes)"],
    "systems": ["Solved(numbers)", "Singular(way)"],
    "tasks": ["Found(numbers)", "Barred(weights)", "Least(value, numbers, weights)",
              "Greatest(value, numbers, weights)", "Endless(numbers, way)", "Follows(weights)", "Fails(numbers)"],
    "selfeating": ["SelfEating(lot, weights)"],
    "ownrows": ["MannerRow(prices)"],
    "beginnings": ["Ceiling(value, worth, amounts)"],
    "growing": ["Plan(starts, turns)", "Stopped(where, index)", "Held(weights)"],
    "serving": ["Served(labour, amounts, prices)"],
    "joint": ["JointRecipe(labour, eats, makes)", "JointWorks(goods, recipes)"],
    "jointserve": ["JointServed(labour, amounts, prices)", "NotServed(weights)"],
    "pricerows": ["PriceRow(prices, wish)"],
    "together": ["AddsUp(prices)", "Apart(one, other, together, apart)"],
    "twoworks": ["TwoRecipe(good, first, second, eats)", "TwoWorks(goods, recipes)"],
    "shares": ["Stretch(low, high, manner)"],
    "frontiers": ["TwoServed(amounts, first, second)", "TooLittle(share, prices)"],
    "trade": ["Gain(first, second, saved_first, saved_second)", "Idle(share)", "Pays(one_sells, other_sells)"],
    "facts": ["Clash(lots)"],
    "unknown": ["NeverBest(weights)"],
    "claims": ["Sure(papers)", "Never(papers)", "Both(yes, no)"],
    "bounds": ["Bound(most, labours, papers)"],
    "worths": ["Parted(price, labour, worth)", "Dated(labours, rest)"],
    "switches": ["Switches(spans, sides)"],
    "returns": ["RateStretch(low, high, word, manner)", "Returned(manner, first, between, last)"],
    "mends": ["Mends(least, others)", "Spoiler(choice, added, goal)"],
    "bench": ["Bench(works)"],
}
NO_RESULTS = {"Recipe", "Works", "JointRecipe", "JointWorks", "TwoRecipe", "TwoWorks", "Bench"}
PROPERTIES = {("mends", "Mends"): ["choices", "needed"]}
METHODS = {
    ("works", "Works"): ["recipes_of(self, good)", "with_recipe(self, recipe)", "without_recipe(self, number)",
                         "with_labour(self, number, labour)", "renamed(self, order)", "scaled_good(self, good, size)",
                         "times_labour(self, size)"],
    ("joint", "JointWorks"): [],
    ("twoworks", "TwoWorks"): ["swapped(self)", "with_recipe(self, recipe)", "without_recipe(self, number)"],
    ("bench", "Bench"): ["put(self, change)", "take_back(self, number)", "prices_now(self)", "tried(self, work)",
                         "trial(self)"],
}
GENERATORS = {("tasks", "barred_lots"), ("selfeating", "self_eating_lots"), ("ownrows", "manners_of"),
              ("manners", "all_best"), ("manners", "steps_to_best"), ("parts", "able_manners"),
              ("unknown", "best_ever"), ("mends", "all_choices")}


def thing_of(module, name):
    return getattr(importlib.import_module("leastlabour." + module), name)


class TestInterface(unittest.TestCase):
    def test_functions(self):
        for module, shapes in FUNCTIONS.items():
            for shape in shapes:
                name = shape.partition("(")[0]
                thing = thing_of(module, name)
                self.assertTrue(inspect.isfunction(thing), name)
                self.assertEqual(name + str(inspect.signature(thing)), shape)
                self.assertEqual(thing.__module__, "leastlabour." + module)
                self.assertEqual(inspect.isgeneratorfunction(thing), (module, name) in GENERATORS, name)

    def test_classes(self):
        for module, shapes in CLASSES.items():
            for shape in shapes:
                name = shape.partition("(")[0]
                thing = thing_of(module, name)
                self.assertTrue(inspect.isclass(thing), name)
                self.assertEqual(name + str(inspect.signature(thing)), shape)
                self.assertEqual(thing.__module__, "leastlabour." + module)
                # The document promises no == of a bench.
                self.assertEqual("__eq__" in vars(thing), name != "Bench")

    def test_methods_stand_in_the_class_itself(self):
        for (module, name), shapes in METHODS.items():
            own = vars(thing_of(module, name))
            for shape in shapes:
                method = shape.partition("(")[0]
                self.assertEqual(method + str(inspect.signature(own[method])), shape)
            for method in ("__len__", "__iter__"):
                self.assertIn(method, own)

    def test_properties_stand_in_the_class_itself(self):
        for (module, name), names in PROPERTIES.items():
            own = vars(thing_of(module, name))
            self.assertEqual([word for word, thing in own.items() if isinstance(thing, property)], names)

    def results(self):
        """All result classes, each with the names of its attributes."""
        for module, shapes in CLASSES.items():
            for shape in shapes:
                name, _, more = shape.rstrip(")").partition("(")
                if name not in NO_RESULTS:
                    yield thing_of(module, name), more.split(", ")

    def test_results_keep_the_very_things(self):
        for kind, names in self.results():
            things = [object() for _ in names]
            made = kind(*things)
            self.assertEqual(list(vars(made)), names)
            for name, thing in zip(names, things):
                self.assertIs(getattr(made, name), thing)
            self.assertIs(getattr(kind(**dict(zip(names, things))), names[0]), things[0])

    def test_results_are_equal_by_all_attributes(self):
        for kind, names in self.results():
            things = [[place] for place in range(len(names))]
            self.assertTrue(kind(*things) == kind(*[list(thing) for thing in things]))
            for place in range(len(names)):
                changed = list(things)
                changed[place] = None
                self.assertFalse(kind(*things) == kind(*changed), kind)
                self.assertTrue(kind(*things) != kind(*changed), kind)

    def test_results_of_two_classes_are_never_equal(self):
        made = [kind(*[1 for _ in names]) for kind, names in self.results()]
        for at, one in enumerate(made):
            for place, other in enumerate(made):
                self.assertIs(one == other, at == place)
            self.assertFalse(one == 1)
            self.assertFalse(one == (1,))
            self.assertFalse(one == None)  # noqa: E711


if __name__ == "__main__":
    unittest.main()
