import unittest

from leastlabour.changes import apply_changes, numbers_behind
from leastlabour.errors import BadChange
from leastlabour.joint import JointRecipe
from leastlabour.ratios import ONE, ZERO
from leastlabour.works import Recipe, Works
from leastlabour.workstext import recipe_of, works_of, works_text
from tests.drawing import HALF, NO_RATIOS, NO_SEQUENCES, NO_WHOLES, Draw, fault, is_plain
from tests.plainmends import plain_behind
from tests.test_buying import MADE, bare

TWO, THREE = (2, 1), (3, 1)
ONLY = recipe_of(2, "1: 5")
NO_CHANGES = NO_SEQUENCES + (
    (), [], ("let",), ("let", ONLY, 1), ("strike",), ("strike", 0, 0), ("labour", 0), ("labour",),
    ("labour", 0, ONE, 0), ("Let", ONLY), ("put", ONLY), (None, ONLY), (ONLY, "let"), (("let",), ONLY), (["strike"], 0), (0, "strike"),
    ("labour", 0, ONE, ONE), (True, 0), ({}, 0))


def drawn_change(draw, works):
    kind = draw.whole(1, 4)
    if kind == 1 or not len(works):
        return ("let", draw.recipe(works.goods))
    number = draw.whole(0, len(works) - 1)
    return ("strike", number) if kind == 2 else ("labour", number, draw.ratio(1, 4, 3))


class TestApply(unittest.TestCase):
    def test_examples(self):
        self.assertEqual(apply_changes(MADE, ()), MADE)
        self.assertEqual(apply_changes(MADE, [("strike", 0)]), MADE.without_recipe(0))
        self.assertEqual(apply_changes(MADE, [["labour", 2, HALF]]), MADE.with_labour(2, HALF))
        self.assertEqual(apply_changes(MADE, (("let", ONLY),)), MADE.with_recipe(ONLY))
        # Numbers are those of the works before all changes; let recipes stand behind.
        changes = [("let", ONLY), ("strike", 0), ["strike", 1], ("labour", 2, ONE), ("let", MADE.recipes[0])]
        self.assertEqual(works_text(apply_changes(MADE, changes)), "goods 2\n0: 1\n1: 5\n0: 1 + 1/2 of 1")
        self.assertEqual(numbers_behind(MADE, changes), (2, 3, 4))
        self.assertEqual(numbers_behind(MADE, []), (0, 1, 2))
        self.assertEqual(apply_changes(Works(2, ()), [("let", ONLY)]), works_of("goods 2\n1: 5"))

    def test_several_changes_of_one_recipe(self):
        # The least of the told labours counts, not the recipe's own.
        for labours in ((TWO, THREE), (THREE, TWO), (TWO, TWO), ((9, 1), TWO, (5, 2))):
            told = apply_changes(MADE, [("labour", 0, labour) for labour in labours])
            self.assertEqual(told, MADE.with_labour(0, TWO))
        # A struck recipe is struck, whatever else is told of it, once or twice.
        for changes in ([("strike", 0), ("labour", 0, HALF)], [("labour", 0, HALF), ("strike", 0)],
                        [("strike", 0), ("strike", 0)], [("labour", 0, TWO), ("strike", 0), ("labour", 0, HALF)]):
            self.assertEqual(apply_changes(MADE, changes), MADE.without_recipe(0))
            self.assertEqual(numbers_behind(MADE, changes), (1, 2))

    def test_drawn(self):
        draw = Draw(931)
        for _ in range(150):
            works = draw.works(draw.whole(1, 3), 6)
            changes = [drawn_change(draw, works) for _ in range(draw.whole(0, 6))]
            behind, numbers = plain_behind(works, changes, tuple(range(len(changes))))
            self.assertEqual(apply_changes(works, [list(change) for change in changes]), behind)
            self.assertIs(apply_changes(works, changes).__class__, Works)
            self.assertEqual(numbers_behind(works, tuple(changes)), tuple(numbers))
            is_plain(self, numbers_behind(works, changes))
            # The order counts for let recipes alone.
            lets = [change for change in changes if change[0] == "let"]
            turned = [change for change in reversed(changes) if change[0] != "let"]
            self.assertEqual(apply_changes(works, turned + lets), behind)

    def test_passed_lists_stay(self):
        changes = [["labour", 0, HALF], ["strike", 1], ["let", ONLY]]
        apply_changes(MADE, changes), numbers_behind(MADE, changes)
        self.assertEqual(changes, [["labour", 0, HALF], ["strike", 1], ["let", ONLY]])


class TestFaults(unittest.TestCase):
    def check(self, works, changes, index, what):
        for call in (apply_changes, numbers_behind):
            fault(self, BadChange, {"index": index, "what": what}, call, works, changes)

    def test_words(self):
        for thing in NO_SEQUENCES:
            self.check(MADE, thing, 0, "sequence")
        for thing in NO_CHANGES:
            self.check(MADE, [thing], 0, "change")
            self.check(MADE, [("strike", 0), ("let", ONLY), thing, ("let", None)], 2, "change")
        wrong = (None, 0, "0: 1", JointRecipe(ONE, (ZERO,) * 2, (ONE,) * 2), Recipe(0, ONE, (ZERO,)),
                 Recipe(0, ONE, (ZERO,) * 3), (0, ONE, (ZERO, ZERO)))
        for thing in wrong:
            self.check(MADE, [("strike", 0), ["let", thing]], 1, "recipe")
        for thing in NO_WHOLES + (3, -1):
            self.check(MADE, [("let", ONLY), ("strike", thing)], 1, "number")
            self.check(MADE, (("labour", thing, None),), 0, "number")
        for thing in NO_RATIOS + (ZERO, (-1, 2)):
            self.check(MADE, [("labour", 0, ONE), ("labour", 1, thing), ("strike", None)], 1, "labour")
        # A let recipe has no number yet.
        self.check(MADE, [("let", ONLY), ("strike", 3)], 1, "number")
        self.check(Works(2, ()), [("strike", 0)], 0, "number")

    def test_twelve_and_more_recipes(self):
        goods = bare(1).goods
        more = ("let", Recipe(0, ONE, (ZERO,) * goods))
        self.assertEqual(len(apply_changes(bare(11), [more])), 12)
        self.assertEqual(len(apply_changes(Works(goods, ()), [more] * 12)), 12)
        self.check(bare(12), [more], 0, "many")
        self.check(bare(10), [more, more, more, ("strike", None)], 2, "many")
        self.check(Works(goods, ()), [more] * 13, 12, "many")
        # Struck recipes count, before and behind.
        self.check(bare(12), [("strike", 0), more], 1, "many")
        self.check(bare(12), [more, ("strike", 0)], 0, "many")
        self.check(bare(11), [("strike", 0), ("strike", 1), more, more], 3, "many")
        self.assertEqual(len(apply_changes(bare(12), [("strike", 0)] * 20)), 11)
        # The recipe is judged before the number of recipes.
        self.check(bare(12), [("let", ONLY)], 0, "recipe")


if __name__ == "__main__":
    unittest.main()
