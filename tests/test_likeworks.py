import unittest

from leastlabour.errors import BadWorks, UnlikeGoods
from leastlabour.likeworks import bare_works, dearer_good, idle_recipes, joined_gain, joined_works, unlike_wish
from leastlabour.manners import best_manner
from leastlabour.ratios import ONE, ZERO
from leastlabour.serving import least_labour
from leastlabour.wishes import piece_of
from leastlabour.works import Recipe, Works
from leastlabour.workstext import works_of
from tests.drawing import Draw, fault, is_plain
from tests.plain import plain_greatest
from tests.plainfacts import plain_making
from tests.test_buying import LACKING, MADE, bare


def drawn_works(draw, goods):
    return draw.works(goods, 5, 6) if draw.chance(1, 2) else draw.eating_works(goods, 2)


def drawn_pair(draw):
    """Two works of as many goods, often near to one another."""
    one = drawn_works(draw, draw.whole(1, 3))
    kind = draw.whole(1, 4)
    if kind == 1 or not len(one):
        return one, drawn_works(draw, one.goods)
    number = draw.whole(0, len(one) - 1)
    if kind == 2:
        return one, one.without_recipe(number)
    if kind == 3:
        return one.with_labour(number, draw.ratio(1, 4)), one
    return one, bare_works(one)


def is_dearer(price, cost):
    """Whether a good that costs `cost` is not made for it where it costs `price`."""
    return cost is not None and (price is None or price > cost)


class TestAlike(unittest.TestCase):
    def test_examples(self):
        self.assertIsNone(unlike_wish(MADE, MADE))
        self.assertIsNone(unlike_wish(MADE, MADE.without_recipe(0)))
        self.assertEqual(unlike_wish(MADE, MADE.without_recipe(2)), (ONE, ZERO))
        self.assertEqual(unlike_wish(LACKING, LACKING.without_recipe(2)), (ZERO, ZERO, ONE))
        self.assertIsNone(unlike_wish(Works(2, ()), Works(2, [Recipe(0, ONE, (ONE, ZERO))])))
        self.assertEqual(unlike_wish(Works(2, ()), works_of("goods 2\n1: 1")), (ZERO, ONE))
        self.assertIsNone(dearer_good(MADE, MADE))
        self.assertEqual(dearer_good(MADE.without_recipe(2), MADE), 0)
        self.assertIsNone(dearer_good(MADE, MADE.without_recipe(2)))
        self.assertEqual(dearer_good(LACKING.without_recipe(2), LACKING), 2)
        self.assertIsNone(dearer_good(LACKING, Works(3, ())))
        self.assertEqual(dearer_good(Works(3, ()), LACKING), 0)

    def test_drawn(self):
        draw = Draw(921)
        seen = {}
        for _ in range(200):
            one, other = drawn_pair(draw)
            row, others = plain_greatest(one), plain_greatest(other)
            unlike = [good for good in range(one.goods) if row[good] != others[good]]
            dearer = [good for good in range(one.goods) if is_dearer(row[good], others[good])]
            told = unlike_wish(one, other)
            self.assertEqual(told, piece_of(one.goods, unlike[0]) if unlike else None)
            is_plain(self, told)
            self.assertEqual(dearer_good(one, other), dearer[0] if dearer else None)
            self.assertEqual(dearer_good(one, other) is None and dearer_good(other, one) is None, told is None)
            key = (bool(unlike), bool(dearer))
            seen[key] = seen.get(key, 0) + 1
            self.check_wishes(draw, one, other, row, others, dearer)
        self.assertTrue(len(seen) == 3 and min(seen.values()) > 15, seen)

    def check_wishes(self, draw, one, other, row, others, dearer):
        """Alike works, and works that are never dearer, are so for drawn wishes."""
        if dearer:
            return
        for _ in range(2):
            wish = tuple(ZERO if price is None or draw.chance(1, 3) else draw.ratio(0, 3) for price in others)
            cost, price = least_labour(other, wish), least_labour(one, wish)
            self.assertTrue(price[0] * cost[1] <= cost[0] * price[1])
            if row == others:
                self.assertEqual(cost, price)


class TestJoined(unittest.TestCase):
    def test_examples(self):
        one, other = works_of("goods 2\n0: 1 + 1/2 of 1\n1: 3"), works_of("goods 2\n0: 2\n1: 1 + 1/2 of 0")
        self.assertEqual(joined_works(one, other), Works(2, one.recipes + other.recipes))
        # Apart good 0 costs 5/2 and 2, good 1 costs 3 and 2; joined they cost 2 and 2.
        self.assertIsNone(joined_gain(one, other))
        other = works_of("goods 2\n0: 4\n1: 1 + 1/8 of 0")
        self.assertEqual(joined_gain(one, other), 0)
        self.assertEqual(joined_gain(other, one), 0)
        self.assertIsNone(joined_gain(LACKING, Works(3, ())))
        self.assertIsNone(joined_gain(Works(3, ()), LACKING))
        # Good 2 is made by the joined works alone.
        self.assertEqual(joined_gain(works_of("goods 3\n1: 2"), works_of("goods 3\n2: 1 + 1 of 1")), 2)
        self.assertIsNone(joined_gain(Works(1, ()), Works(1, ())))

    def test_drawn(self):
        draw = Draw(922)
        gained = 0
        for _ in range(120):
            goods = draw.whole(1, 3)
            one, other = drawn_works(draw, goods), drawn_works(draw, goods)
            told = joined_works(one, other)
            self.assertEqual((told.goods, told.recipes), (goods, one.recipes + other.recipes))
            self.assertIsNone(dearer_good(told, one))
            self.assertIsNone(dearer_good(told, other))
            rows = [plain_greatest(one), plain_greatest(other)]
            apart = [min((row[good] for row in rows if row[good] is not None), default=None) for good in range(goods)]
            prices = plain_greatest(told)
            gains = [good for good in range(goods) if is_dearer(apart[good], prices[good])]
            self.assertEqual(joined_gain(one, other), gains[0] if gains else None)
            gained += bool(gains)
        self.assertTrue(10 < gained < 110, gained)

    def test_too_many(self):
        self.assertEqual(len(joined_works(bare(5), bare(7))), 12)
        for call in (joined_works, joined_gain):
            fault(self, BadWorks, {"index": 0, "what": "many"}, call, bare(6), bare(7))
            fault(self, UnlikeGoods, {}, call, bare(6), bare(7, 4))


class TestIdle(unittest.TestCase):
    def test_examples(self):
        self.assertEqual(idle_recipes(MADE), (0,))
        self.assertEqual(bare_works(MADE), Works(2, MADE.recipes[1:]))
        # Two recipes that are idle each for the other.
        works = works_of("goods 1\n0: 3\n0: 3\n0: 9")
        self.assertEqual(idle_recipes(works), (0, 1, 2))
        self.assertEqual(bare_works(works), works_of("goods 1\n0: 3"))
        self.assertEqual(idle_recipes(LACKING), (1,))
        self.assertEqual(bare_works(LACKING), works_of("goods 3\n0: 2\n2: 9"))
        self.assertEqual(idle_recipes(Works(2, ())), ())
        self.assertEqual(bare_works(Works(2, [Recipe(0, ONE, (ONE, ZERO))])), Works(2, ()))
        # In the order of their numbers, not of their goods.
        turned = works_of("goods 2\n1: 1\n0: 2")
        self.assertEqual(bare_works(turned), turned)

    def test_drawn(self):
        draw = Draw(923)
        seen = {True: 0, False: 0}
        for _ in range(150):
            works = drawn_works(draw, draw.whole(1, 3))
            if len(works) and draw.chance(1, 4):
                works = works.with_recipe(draw.pick(works.recipes))
            idle = idle_recipes(works)
            is_plain(self, idle)
            row = plain_greatest(works)
            for number in range(len(works)):
                alike = plain_greatest(works.without_recipe(number)) == row
                self.assertIs(number in idle, alike)
                self.assertTrue(alike or number in plain_making(works))
                seen[alike] += 1
            bare_ones = bare_works(works)
            self.assertEqual(plain_greatest(bare_ones), row)
            self.assertIsNone(unlike_wish(bare_ones, works))
            self.assertEqual(idle_recipes(bare_ones), ())
            manner = best_manner(works)
            self.assertEqual(bare_ones.recipes, tuple(works.recipes[number] for number in range(len(works))
                                                      if number in manner))
        self.assertTrue(min(seen.values()) > 50, seen)


class TestFaults(unittest.TestCase):
    def test_unlike_goods(self):
        for call in (unlike_wish, dearer_good, joined_works, joined_gain):
            fault(self, UnlikeGoods, {}, call, MADE, LACKING)
            fault(self, UnlikeGoods, {}, call, LACKING, MADE)
            fault(self, UnlikeGoods, {}, call, Works(1, ()), Works(2, ()))


if __name__ == "__main__":
    unittest.main()
