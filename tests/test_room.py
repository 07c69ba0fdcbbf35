import unittest

from leastlabour.errors import BadLimit, BadRecipe, NoGood, NoRecipe, NotMade
from leastlabour.prices import tight_recipes
from leastlabour.ratios import ONE, ZERO
from leastlabour.room import labour_limit, room_for
from leastlabour.works import Recipe, Works
from leastlabour.workstext import works_of
from tests.drawing import HALF, NO_RATIOS, NO_SEQUENCES, NO_WHOLES, Draw, back, fault, frac, fracs, is_plain, summed
from tests.plain import eaten_goods, plain_greatest, plain_made
from tests.test_buying import LACKING, MADE, bare
from tests.test_mends import WORKS

TWO, THREE = (2, 1), (3, 1)
LITTLE = frac((1, 10 ** 9))
LABOURS = ((1, 10 ** 9), HALF, TWO, (10 ** 6, 1))


def drawn_works(draw):
    return draw.works(draw.whole(1, 3), 6, 6) if draw.chance(1, 2) else draw.eating_works(draw.whole(1, 3))


class TestRoom(unittest.TestCase):
    def test_examples(self):
        self.assertEqual(room_for(WORKS, 0, (ZERO, HALF)), ("to", ONE))
        self.assertEqual(room_for(MADE, 0, [ZERO, ZERO]), ("to", (3, 2)))
        self.assertEqual(room_for(MADE, 1, (HALF, ZERO)), ("to", ONE))
        self.assertEqual(room_for(Works(2, ()), 1, (ZERO, ZERO)), ("any",))
        self.assertEqual(room_for(Works(2, ()), 1, (ZERO, HALF)), ("any",))

    def test_rooms_of_0_and_of_none(self):
        # The price of good 0 is just what is eaten, or less.
        for eats in ((ZERO, ONE), (ZERO, TWO), (ONE, ZERO), (HALF, HALF)):
            self.assertEqual(room_for(WORKS, 0, eats), ("never",))
        # A good that cannot be made is eaten.
        self.assertEqual(room_for(LACKING, 0, (ZERO, (1, 9), ZERO)), ("never",))
        self.assertEqual(room_for(LACKING, 1, (ZERO, ONE, ZERO)), ("never",))
        self.assertEqual(room_for(LACKING, 1, (ZERO, ZERO, THREE)), ("any",))
        self.assertEqual(room_for(Works(3, ()), 1, (ZERO, ZERO, THREE)), ("never",))
        # Good 1 is made of good 2, which can be made of it: together they make too little, or enough.
        ring = works_of("goods 3\n2: 1 + 1 of 1")
        self.assertEqual(room_for(ring, 1, (ZERO, ZERO, ONE)), ("never",))
        self.assertEqual(room_for(ring, 1, (ZERO, ZERO, (9, 10))), ("any",))

    def test_works_that_are_full(self):
        self.assertEqual(room_for(bare(12), 0, (ZERO,) * 5), ("to", (7, 1)))
        self.assertEqual(room_for(bare(12), 3, (ONE, ZERO, ZERO, HALF, ZERO)), ("any",))
        self.assertEqual(room_for(bare(12), 3, (ONE, ZERO, ZERO, ONE, ZERO)), ("never",))

    def test_on_both_sides_of_the_room(self):
        draw = Draw(951)
        seen = {}
        for _ in range(200):
            works = drawn_works(draw)
            good, eats = draw.whole(0, works.goods - 1), draw.row(works.goods, 0, 1, draw.pick((5, 8)))
            told = room_for(works, good, list(eats))
            is_plain(self, told)
            seen[told[0]] = seen.get(told[0], 0) + 1
            row, made = plain_greatest(works), plain_made(works)
            labours = [back(frac(told[1]) + more) for more in (-LITTLE, 0, LITTLE, 5)] if told[0] == "to" else LABOURS
            for labour in labours:
                if labour[0] <= 0:
                    continue
                wide = works.with_recipe(Recipe(good, labour, eats))
                prices, number = plain_greatest(wide), len(works)
                tight = number in tight_recipes(wide)[good]
                lower = [g for g in made if prices[g] < row[g]]
                self.assertTrue(all(prices[g] <= row[g] for g in made))
                if told[0] == "to":
                    self.assertIs(tight, frac(labour) <= frac(told[1]))
                    self.assertEqual(bool(lower), frac(labour) < frac(told[1]))
                    self.assertTrue(not lower or good in lower)
                elif told[0] == "any":
                    self.assertTrue(good not in made and prices[good] is not None)
                else:
                    self.assertEqual((prices, tight), (row, False))
            if told[0] == "to":
                self.assertEqual(frac(told[1]), row[good] - summed(fracs(eats), [one or 0 for one in row]))
                self.assertTrue({good, *eaten_goods(Recipe(good, ONE, eats))} <= set(made))
        self.assertTrue(len(seen) == 3 and min(seen.values()) > 15, seen)

    def test_faults_in_order(self):
        for thing in NO_WHOLES + (2, -1):
            fault(self, NoGood, {"good": thing}, room_for, MADE, thing, None)
        for thing in NO_SEQUENCES + ((), (ONE,), (ONE,) * 3, (ONE, (-1, 2)), [ONE, (-1, 9)]):
            fault(self, BadRecipe, {"what": "eats"}, room_for, MADE, 1, thing)
        for thing in NO_RATIOS:
            fault(self, BadRecipe, {"what": "eats"}, room_for, MADE, 1, (ZERO, thing))

    def test_passed_lists_stay(self):
        eats = [ZERO, HALF]
        room_for(MADE, 0, eats)
        self.assertEqual(eats, [ZERO, HALF])


class TestLimit(unittest.TestCase):
    def test_examples(self):
        # Without recipe 2 good 1 costs 2; with labour 3/2 it costs 7/4.
        self.assertEqual(labour_limit(MADE, 2, 1, (7, 4)), ("to", (3, 2)))
        self.assertEqual(labour_limit(MADE, 2, 1, TWO), ("any",))
        self.assertEqual(labour_limit(MADE, 2, 1, (9, 1)), ("any",))
        self.assertEqual(labour_limit(MADE, 2, 1, (199, 100)), ("to", (99, 50)))
        self.assertEqual(labour_limit(MADE, 2, 1, (3, 2)), ("to", ONE))
        self.assertEqual(labour_limit(MADE, 2, 1, ONE), ("never",))
        self.assertEqual(labour_limit(MADE, 2, 1, HALF), ("never",))
        self.assertEqual(labour_limit(MADE, 0, 0, ONE), ("to", (1, 4)))
        for ratio in (ZERO, (-1, 1)):
            self.assertEqual(labour_limit(MADE, 1, 1, ratio), ("never",))

    def test_recipes_without_which_the_good_cannot_be_made(self):
        self.assertEqual(labour_limit(MADE, 1, 1, (10 ** 6, 1)), ("to", (4 * 10 ** 6 - 3, 4)))
        self.assertEqual(labour_limit(LACKING, 0, 0, HALF), ("to", HALF))
        self.assertEqual(labour_limit(works_of("goods 1\n0: 5 + 1/2 of 0"), 0, 0, THREE), ("to", (3, 2)))

    def test_recipes_that_are_of_no_use(self):
        # Recipe 1 is no making recipe, recipe 2 is of another good.
        self.assertEqual(labour_limit(LACKING, 1, 0, TWO), ("any",))
        self.assertEqual(labour_limit(LACKING, 1, 0, ONE), ("never",))
        self.assertEqual(labour_limit(LACKING, 2, 0, TWO), ("any",))
        self.assertEqual(labour_limit(LACKING, 2, 0, (19, 10)), ("never",))

    def test_on_both_sides_of_the_limit(self):
        draw = Draw(952)
        seen = {}
        for _ in range(300):
            works = drawn_works(draw)
            made = plain_made(works)
            if not made:
                continue
            number, good = draw.whole(0, len(works) - 1), draw.pick(made)
            own = plain_greatest(works)[good]
            ratio = back(own * frac(draw.pick((ONE, HALF, (9, 10), (11, 10), TWO, (1, 20)))))
            told = labour_limit(works, number, good, ratio)
            is_plain(self, told)
            self.assertEqual(told, labour_limit(works.with_labour(number, draw.ratio(1, 4)), number, good, ratio))
            seen[told[0]] = seen.get(told[0], 0) + 1
            labours = [back(frac(told[1]) + more) for more in (-LITTLE, 0, LITTLE, 5)] if told[0] == "to" else LABOURS
            for labour in labours:
                if labour[0] > 0:
                    price = plain_greatest(works.with_labour(number, labour))[good]
                    wanted = frac(labour) <= frac(told[1]) if told[0] == "to" else told[0] == "any"
                    self.assertIs(price <= frac(ratio), wanted)
        self.assertTrue(len(seen) == 3 and min(seen.values()) > 15, seen)

    def test_faults_in_order(self):
        for thing in NO_WHOLES + (3, -1):
            fault(self, NoRecipe, {"number": thing}, labour_limit, MADE, thing, None, None)
            fault(self, NoGood, {"good": thing}, labour_limit, MADE, 2, thing, None)
        fault(self, NotMade, {"good": 1}, labour_limit, LACKING, 1, 1, None)
        for thing in NO_RATIOS:
            fault(self, BadLimit, {}, labour_limit, LACKING, 1, 0, thing)


if __name__ == "__main__":
    unittest.main()
