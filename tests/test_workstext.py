import unittest

from leastlabour.errors import BadText
from leastlabour.ratios import ONE, ZERO, ratio_text
from leastlabour.works import Recipe, Works
from leastlabour.workstext import recipe_of, recipe_text, row_of, row_text, works_of, works_text
from tests.drawing import HALF, Draw, fault

NO_STRINGS = (None, 1, True, b"nothing", ["nothing"], ("goods 1",), ONE)


class TestShowing(unittest.TestCase):
    def test_row_text(self):
        self.assertEqual(row_text((HALF, ZERO, (2, 1))), "1/2 of 0 + 2 of 2")
        self.assertEqual(row_text([ZERO, ONE]), "1 of 1")
        self.assertEqual(row_text((ZERO, ZERO)), "nothing")

    def test_recipe_text(self):
        self.assertEqual(recipe_text(Recipe(0, ONE, (ZERO, HALF, ONE))), "0: 1 + 1/2 of 1 + 1 of 2")
        self.assertEqual(recipe_text(Recipe(1, (7, 2), (ZERO, ZERO))), "1: 7/2")

    def test_works_text(self):
        works = Works(2, (Recipe(0, ONE, (ZERO, HALF)), Recipe(1, (2, 3), (ZERO, ZERO))))
        self.assertEqual(works_text(works), "goods 2\n0: 1 + 1/2 of 1\n1: 2/3")
        self.assertEqual(works_text(Works(5, ())), "goods 5")


class TestReading(unittest.TestCase):
    def test_reading_back_what_is_shown(self):
        draw = Draw(7)
        for _ in range(150):
            works = draw.works(most=12, zeros=4, high=3)
            self.assertEqual(works_of(works_text(works)), works)
            for recipe in works:
                self.assertEqual(recipe_of(works.goods, recipe_text(recipe)), recipe)
                self.assertEqual(row_of(works.goods, row_text(recipe.eats)), recipe.eats)
                self.assertIsInstance(row_of(works.goods, row_text(recipe.eats)), tuple)

    def test_other_texts_near_by_are_refused(self):
        draw = Draw(8)
        for _ in range(300):
            works = draw.works(most=3, zeros=4, high=3)
            text = works_text(works)
            place = draw.whole(0, len(text))
            sign = draw.pick("0123456789 +-/:of\n")
            changed = text[:place] + sign + text[place + draw.whole(0, 1):]
            try:
                told = works_of(changed)
            except BadText:
                continue
            self.assertEqual(works_text(told), changed)

    def test_rows_refused(self):
        for text in ("", " ", "nothing ", "nothing + 1 of 0", "0 of 0", "1 of 2", "1 of 1 + 1 of 0", "1 of 0 + 1 of 0",
                     "-1 of 0", "2/4 of 0", "01 of 0", "1 of 00", "1 of 0 + ", "1 of 0 +1 of 1", "1 of 0 + 0 of 1",
                     "1  of 0", "1 of 0\n", "1of 0", "1 of", "1 of ", "of 0", "1 of 0 of 1", "1 of -0", "1", "Nothing",
                     "1 of 0 + nothing", "1/0 of 0"):
            fault(self, BadText, {"number": 0, "what": "row"}, row_of, 2, text)
        for thing in NO_STRINGS:
            fault(self, BadText, {"number": 0, "what": "row"}, row_of, 2, thing)
        self.assertEqual(row_of(2, "nothing"), (ZERO, ZERO))
        self.assertEqual(row_of(1, "1 of 0"), (ONE,))
        self.assertEqual(row_of(5, "1 of 4"), (ZERO,) * 4 + (ONE,))

    def test_recipes_refused(self):
        for text in ("", "0", "0:", "0: ", "0:1", "0: 0", "0: -1", "2: 1", "0: 1 + nothing", "0: 1 + ", "0: 1 + 0 of 1",
                     "0: 1 + 1 of 1 + 1 of 0", "0: 1 + 1 of 2", "00: 1", "0: 01", "0: 2/2", " 0: 1", "0: 1 ", "0 : 1",
                     "0: 1\n", "a: 1", "0: a", "0: 1 1 of 0", "0: 1, 2", "-0: 1", "0: 1 + 1 of 0: 1"):
            fault(self, BadText, {"number": 0, "what": "recipe"}, recipe_of, 2, text)
        for thing in NO_STRINGS:
            fault(self, BadText, {"number": 0, "what": "recipe"}, recipe_of, 2, thing)

    def test_300_and_301_figures(self):
        long, longer = "3" * 300, "3" * 301
        self.assertEqual(row_of(1, long + " of 0"), ((int(long), 1),))
        self.assertEqual(recipe_of(1, "0: 1/" + long).labour, (1, int(long)))
        self.assertEqual(works_of("goods 1\n0: " + long).recipes[0].labour, (int(long), 1))
        fault(self, BadText, {"number": 0, "what": "row"}, row_of, 1, longer + " of 0")
        fault(self, BadText, {"number": 0, "what": "recipe"}, recipe_of, 1, "0: 1/" + longer)
        fault(self, BadText, {"number": 0, "what": "recipe"}, recipe_of, 1, "0: 1 + 1/" + longer + " of 0")
        fault(self, BadText, {"number": 1, "what": "recipe"}, works_of, "goods 1\n0: " + longer)
        self.assertEqual(ratio_text((int(long), 1)), long)

    def test_works_refused(self):
        for thing in NO_STRINGS:
            fault(self, BadText, {"number": 0, "what": "text"}, works_of, thing)
        for text in ("", "goods", "goods ", "goods 0", "goods 6", "goods 01", "goods 1 ", " goods 1", "Goods 1", "\ngoods 1",
                     "goods  1", "goods 1\r\n0: 1", "goods -1", "goods 1.0", "0: 1"):
            fault(self, BadText, {"number": 0, "what": "goods"}, works_of, text)
        fault(self, BadText, {"number": 1, "what": "recipe"}, works_of, "goods 1\n")
        fault(self, BadText, {"number": 2, "what": "recipe"}, works_of, "goods 1\n0: 1\n")
        fault(self, BadText, {"number": 2, "what": "recipe"}, works_of, "goods 1\n0: 1\n1: 1\n0: x")
        fault(self, BadText, {"number": 2, "what": "recipe"}, works_of, "goods 1\n0: 1\n\n0: 1")

    def test_12_and_13_recipes(self):
        text = "goods 1" + "\n0: 1" * 12
        self.assertEqual(len(works_of(text)), 12)
        fault(self, BadText, {"number": 0, "what": "many"}, works_of, text + "\n0: 1")
        fault(self, BadText, {"number": 14, "what": "recipe"}, works_of, text + "\n0: 1\n0: 0")

    def test_5_and_6_goods(self):
        self.assertEqual(works_of("goods 5\n4: 1").recipes[0].good, 4)
        fault(self, BadText, {"number": 0, "what": "goods"}, works_of, "goods 6\n5: 1")
        fault(self, BadText, {"number": 1, "what": "recipe"}, works_of, "goods 5\n5: 1")


if __name__ == "__main__":
    unittest.main()
