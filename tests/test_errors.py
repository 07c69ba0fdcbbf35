import inspect
import unittest

from leastlabour import errors

ATTRIBUTES = {
    "BadRatio": ["what"], "BadRecipe": ["what"], "BadWorks": ["index", "what"], "NoGood": ["good"],
    "NoRecipe": ["number"], "BadLabour": [], "BadOrder": [], "BadSize": [], "BadWish": [], "BadAmounts": [],
    "BadLot": [], "BadManner": [], "BadText": ["number", "what"], "BadTask": ["what"], "BadNumbers": [],
    "NotMade": ["good"], "CannotMake": [], "BadWeights": [], "BadStock": [], "BadPlan": ["index", "what"],
    "BadPrices": ["what"], "BadShare": [], "BadOffer": ["what"], "BadFact": ["index", "what"], "BadLabours": [],
    "BadClaim": ["what"], "NoLabours": [], "BadRate": [], "BadParts": ["what"], "BadSteps": [], "BadPolynomial": [],
    "BadPlace": [], "IsNought": [], "BadSpan": ["what"], "CannotRun": [], "OutOfManner": ["number"], "NotOne": [],
    "BadMarket": ["index", "what"], "BadRise": [], "UnlikeGoods": [], "BadChange": ["index", "what"],
    "BadChoice": [], "BadGoal": ["index", "what"], "BadLimit": [], "NoChange": ["number"],
}


class TestErrors(unittest.TestCase):
    def test_works_error_stands_directly_under_value_error(self):
        self.assertEqual(errors.WorksError.__bases__, (ValueError,))

    def test_each_error_stands_directly_under_works_error(self):
        for name in ATTRIBUTES:
            self.assertEqual(getattr(errors, name).__bases__, (errors.WorksError,), name)
            self.assertEqual(getattr(errors, name).__module__, "leastlabour.errors")

    def test_there_are_no_other_errors(self):
        found = [name for name, thing in vars(errors).items() if inspect.isclass(thing)]
        self.assertEqual(sorted(found), sorted(list(ATTRIBUTES) + ["WorksError"]))

    def test_attributes_bear_the_names_and_the_order(self):
        for name, attributes in ATTRIBUTES.items():
            things = [object() for _ in attributes]
            raised = getattr(errors, name)(*things)
            self.assertEqual(list(vars(raised)), attributes, name)
            for attribute, thing in zip(attributes, things):
                self.assertIs(getattr(raised, attribute), thing)

    def test_an_error_is_caught_as_works_error_and_as_value_error(self):
        for kind in (errors.WorksError, ValueError):
            with self.assertRaises(kind):
                raise errors.BadWorks(3, "eats")


if __name__ == "__main__":
    unittest.main()
