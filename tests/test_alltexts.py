import re
import unittest
from math import gcd

from leastlabour.alltexts import joint_of, joint_text, two_of, two_text
from leastlabour.errors import BadText
from leastlabour.joint import JointRecipe, JointWorks
from leastlabour.ratios import ONE, ZERO
from leastlabour.twoworks import TwoRecipe, TwoWorks
from tests.drawing import HALF, Draw, fault

TWO, THREE = (2, 1), (3, 1)
NO_STRINGS = (None, True, 1, b"goods 1", ["goods 1"], ("goods 1",), {}, object())
RATIO = "(?:0|[1-9][0-9]*(?:/(?:[2-9]|[1-9][0-9]+))?)"
ROW = f"{RATIO} of [0-4](?: [+] {RATIO} of [0-4])*"
TWO_ROW = re.compile(f"([0-4]): ({RATIO}), ({RATIO})(?: [+] ({ROW}))?")
JOINT_ROW = re.compile(f"({ROW}) <- ({RATIO})(?: [+] ({ROW}))?")
SIGNS = "0127/ +-<:,ofgnx\n"


def plain_ratio(text):
    """The ratio of a text of the right form, or None if it is not in lowest terms."""
    top, _, bottom = text.partition("/")
    told = (int(top), int(bottom or 1))
    return told if gcd(*told) == 1 else None


def plain_row(text, goods):
    """The row of a text of the right form, None if it is not the one text of a row."""
    row, last = [ZERO] * goods, -1
    for part in text.split(" + ") if text else []:
        many, _, good = part.partition(" of ")
        many, good = plain_ratio(many), int(good)
        if many in (None, ZERO) or not last < good < goods:
            return None
        row[good], last = many, good
    return tuple(row)


def plain_two(text, goods):
    told = TWO_ROW.fullmatch(text)
    if told is None:
        return None
    first, second, eats = plain_ratio(told[2]), plain_ratio(told[3]), plain_row(told[4], goods)
    if int(told[1]) >= goods or None in (first, second, eats) or first == second == ZERO:
        return None
    return TwoRecipe(int(told[1]), first, second, eats)


def plain_joint(text, goods):
    told = JOINT_ROW.fullmatch(text)
    if told is None:
        return None
    makes, labour, eats = plain_row(told[1], goods), plain_ratio(told[2]), plain_row(told[3], goods)
    return None if None in (makes, labour, eats) or labour == ZERO else JointRecipe(labour, eats, makes)


def plain_reading(text, read, most):
    """Goods and recipes, or the number and the word of the error."""
    rows = text.split("\n")
    head = re.fullmatch("goods ([1-5])", rows[0])
    if head is None:
        return (0, "goods")
    recipes = [read(row, int(head[1])) for row in rows[1:]]
    if None in recipes:
        return (recipes.index(None) + 1, "recipe")
    return (0, "many") if len(recipes) > most else (int(head[1]), recipes)


KINDS = ((two_of, two_text, plain_two, 12), (joint_of, joint_text, plain_joint, 8))
EXAMPLE_TWO = TwoWorks(2, [TwoRecipe(0, ONE, TWO, (ZERO, HALF)), TwoRecipe(1, ZERO, (7, 3), (ZERO, ZERO)),
                           TwoRecipe(1, HALF, ZERO, (ONE, (2, 3)))])
EXAMPLE_JOINT = JointWorks(2, [JointRecipe(TWO, (ONE, ZERO), (ONE, HALF)),
                               JointRecipe(HALF, (ZERO, ZERO), (ZERO, THREE)),
                               JointRecipe(ONE, (ONE, (2, 3)), (TWO, ZERO))])


class TestTexts(unittest.TestCase):
    def test_examples(self):
        self.assertEqual(two_text(EXAMPLE_TWO), "goods 2\n0: 1, 2 + 1/2 of 1\n1: 0, 7/3\n1: 1/2, 0 + 1 of 0 + 2/3 of 1")
        self.assertEqual(joint_text(EXAMPLE_JOINT), "goods 2\n1 of 0 + 1/2 of 1 <- 2 + 1 of 0\n3 of 1 <- 1/2\n"
                                                    "2 of 0 <- 1 + 1 of 0 + 2/3 of 1")
        self.assertEqual(two_of(two_text(EXAMPLE_TWO)), EXAMPLE_TWO)
        self.assertEqual(joint_of(joint_text(EXAMPLE_JOINT)), EXAMPLE_JOINT)
        for goods in range(1, 6):
            self.assertEqual(two_text(TwoWorks(goods, ())), f"goods {goods}")
            self.assertEqual(two_of(f"goods {goods}"), TwoWorks(goods, ()))
            self.assertEqual(joint_text(JointWorks(goods, ())), f"goods {goods}")
            self.assertEqual(joint_of(f"goods {goods}"), JointWorks(goods, ()))

    def test_read_back(self):
        draw = Draw(971)
        for _ in range(150):
            two, joint = draw.two_works(draw.whole(1, 5), 12, 5), draw.joint_works(draw.whole(1, 5), 8, 5)
            told = two_of(two_text(two))
            self.assertEqual(told, two)
            self.assertIs(told.__class__, TwoWorks)
            told = joint_of(joint_text(joint))
            self.assertEqual(told, joint)
            self.assertIs(told.__class__, JointWorks)


class TestRefused(unittest.TestCase):
    def check(self, text, kind):
        """Checks that the text is read if it is just the text of works, else refused with the first word due."""
        reader, writer, plain, most = kind
        wanted = plain_reading(text, plain, most)
        if isinstance(wanted[1], str):
            fault(self, BadText, {"number": wanted[0], "what": wanted[1]}, reader, text)
            return 0
        told = reader(text)
        self.assertEqual((told.goods, list(told.recipes)), wanted, text)
        self.assertEqual(writer(told), text)
        return 1

    def test_texts_that_are_spoilt_at_any_place(self):
        for kind, works in zip(KINDS, (EXAMPLE_TWO, EXAMPLE_JOINT)):
            text = kind[1](works)
            read = 0
            for at in range(len(text) + 1):
                read += self.check(text[:at] + text[at + 1:], kind)
                for sign in SIGNS:
                    read += self.check(text[:at] + sign + text[at:], kind)
                    read += self.check(text[:at] + sign + text[at + 1:], kind)
            self.assertTrue(read > 50, read)

    def test_drawn_texts_that_are_spoilt(self):
        draw = Draw(972)
        for _ in range(200):
            for kind, works in zip(KINDS, (draw.two_works(most=3), draw.joint_works(most=3))):
                text = kind[1](works)
                for _ in range(3):
                    at = draw.whole(0, len(text))
                    text = text[:at] + draw.pick(SIGNS) + text[at + draw.whole(0, 1):]
                    self.check(text, kind)

    def test_words(self):
        for kind in KINDS:
            reader, _, _, most = kind
            for thing in NO_STRINGS:
                fault(self, BadText, {"number": 0, "what": "text"}, reader, thing)
            for text in ("", "goods", "goods 0", "goods 6", "goods 01", "goods 1 ", " goods 1", "Goods 1", "\ngoods 1"):
                fault(self, BadText, {"number": 0, "what": "goods"}, reader, text)
                self.check(text, kind)
            fault(self, BadText, {"number": 1, "what": "recipe"}, reader, "goods 1\n")
            row = "\n0: 1, 1" if most == 12 else "\n1 of 0 <- 1"
            self.assertEqual(len(reader("goods 1" + row * most)), most)
            fault(self, BadText, {"number": 0, "what": "many"}, reader, "goods 1" + row * (most + 1))
            fault(self, BadText, {"number": most + 2, "what": "recipe"}, reader, "goods 1" + row * (most + 1) + "\nx")

    def test_rows_refused(self):
        wrong = ("0: 0, 0", "0: 1", "0: 1,2", "0: 1 , 2", "0: -1, 2", "0: 1, -2", "0: 1, 2, 3", "2: 1, 2", "0: 2/4, 1",
                 "0: 1, 2 + nothing", "0: 1, 2 + ", "0: 1, 2 + 0 of 1", "0: 1, 2 + 1 of 1 + 1 of 0", "0: 1, 2 + 1 of 2",
                 "0: 00, 1", "0: 1, 2 ", "0 1, 2", "0: , 2", "0: 1, ", "1 of 0 <- 1")
        for row in wrong:
            fault(self, BadText, {"number": 1, "what": "recipe"}, two_of, "goods 2\n" + row)
        wrong = ("nothing <- 1", "1 of 0 <- 0", "1 of 0 <- -1", "1 of 0", "1 of 0 <- ", " <- 1", "0 of 0 <- 1", "<- 1",
                 "1 of 2 <- 1", "1 of 1 + 1 of 0 <- 1", "1 of 0 <- 1 + nothing", "1 of 0 <- 1 + 0 of 1", "1 of 0<- 1",
                 "1 of 0 <-1", "1 of 0 <- 1 <- 1", "1 of 0 <- 1 + 1 of 1 + 1 of 0", "1 of 0 <- 1, 2", "0: 1",
                 "1 of 0 <- 2/2", "1 of 0 -> 1", "1 of 0 <- 1 + 1 of 0 <- 1")
        for row in wrong:
            fault(self, BadText, {"number": 1, "what": "recipe"}, joint_of, "goods 2\n" + row)

    def test_300_and_301_figures(self):
        long, longer = "3" * 300, "3" * 301
        self.assertEqual(two_of("goods 1\n0: 1, 1/" + long).recipes[0].second, (1, int(long)))
        self.assertEqual(joint_of("goods 1\n1 of 0 <- " + long).recipes[0].labour, (int(long), 1))
        for row in ("0: 1, 1/" + longer, f"0: {longer}, 1", f"0: 1, 1 + {longer} of 0"):
            fault(self, BadText, {"number": 1, "what": "recipe"}, two_of, "goods 1\n" + row)
        for row in ("1 of 0 <- 1/" + longer, f"{longer} of 0 <- 1", f"1 of 0 <- 1 + {longer} of 0"):
            fault(self, BadText, {"number": 1, "what": "recipe"}, joint_of, "goods 1\n" + row)


if __name__ == "__main__":
    unittest.main()
