import inspect
import unittest

from leastlabour.changes import numbers_behind
from leastlabour.errors import BadChange, BadChoice, BadGoal
from leastlabour.mends import (Mends, Spoiler, all_choices, find_mends, find_spoilers, first_unmet, mends_fault)
from leastlabour.ratios import ONE, ZERO
from leastlabour.works import Recipe, Works
from leastlabour.workstext import recipe_of, works_of
from tests.drawing import (HALF, NO_RATIOS, NO_SEQUENCES, NO_WHOLES, Draw, back, fault, frac, generated_fault, is_plain,
                           lots_of)
from tests.plainmends import Behind
from tests.test_changes import NO_CHANGES, drawn_change

TWO = (2, 1)
WORKS = works_of("goods 2\n0: 2\n1: 2")
POOL = [("let", recipe_of(2, "1: 1")), ("let", recipe_of(2, "0: 1")), ("let", recipe_of(2, "1: 1/2"))]
GOALS = [("dearer", 0, 1)]


def rows_of(behind, goals):
    """The rows of least and of others, as the document tells them."""
    def prices(choice):
        return tuple(None if price is None else back(price) for price in behind.told[choice][0])
    least = behind.least(goals)
    others = [choice for choice in behind.told if not any(set(one) <= set(choice) for one in least)]
    return (tuple((choice, prices(choice)) for choice in least),
            tuple((choice, prices(choice), behind.first_unmet(choice, goals)) for choice in others))


def drawn_goal(draw, works, pool, prices):
    kind, good = draw.pick(("made", "at most", "dearer", "used", "at most")), draw.whole(0, works.goods - 1)
    if kind == "made":
        return (kind, good)
    if kind == "dearer":
        return (kind, good, draw.whole(0, works.goods - 1))
    if kind == "used":
        return (kind, draw.whole(0, len(works) + sum(change[0] == "let" for change in pool) - 1))
    # Often at just the price behind some choice.
    told = draw.pick(prices)[good]
    return (kind, good, back(told) if told is not None and draw.chance(2, 3) else draw.ratio(0, 4))


def drawn_case(draw, tame=False):
    """Works, a pool and goals about them, and what stands behind the choices."""
    while True:
        works = draw.works(draw.whole(1, 3), 4, 6) if draw.chance(1, 2) else draw.eating_works(draw.whole(1, 2), 1)
        pool = [drawn_change(draw, works) for _ in range(draw.whole(1, 5))]
        if tame:
            pool = [change for change in pool if change[0] == "let" or change[0] == "labour"
                    and frac(change[2]) <= frac(works.recipes[change[1]].labour)]
        if not pool or not len(works) + sum(change[0] == "let" for change in pool):
            continue
        behind = Behind(works, pool)
        prices = [prices for prices, _ in behind.told.values()]
        goals = [drawn_goal(draw, works, pool, prices) for _ in range(draw.pick((1, 1, 1, 2, 2, 3, 4, 4)))]
        if tame:
            goals = [goal for goal in goals if goal[0] in ("made", "at most")]
        if goals:
            return works, pool, goals, behind


class TestChoices(unittest.TestCase):
    def test_all_choices(self):
        self.assertTrue(inspect.isgeneratorfunction(all_choices))
        self.assertEqual(list(all_choices(0)), [()])
        self.assertEqual(list(all_choices(3)), [(), (0,), (1,), (2,), (0, 1), (0, 2), (1, 2), (0, 1, 2)])
        for size in range(6):
            self.assertEqual(list(all_choices(size)), lots_of(size))
        for thing in NO_WHOLES + (6, -1):
            generated_fault(self, BadChange, {"index": 0, "what": "pool"}, all_choices, thing)

    def test_first_unmet(self):
        goals = [("made", 0), ("at most", 0, TWO), ("dearer", 0, 1), ("used", 0)]
        self.assertEqual(first_unmet(WORKS, POOL, (), goals), 2)
        self.assertEqual(first_unmet(WORKS, POOL, [0], goals), None)
        self.assertEqual(first_unmet(WORKS, POOL, (0, 1), goals), 2)
        self.assertEqual(first_unmet(WORKS, POOL, (0, 1, 2), goals), 3)
        # Prices just at, below and above.
        for ratio, wanted in ((TWO, None), ((19, 10), 0), ((21, 10), None), ((-1, 1), 0)):
            self.assertEqual(first_unmet(WORKS, POOL, (), [["at most", 0, ratio]]), wanted)
        self.assertEqual(first_unmet(WORKS, POOL, (), [("dearer", 0, 0)]), 0)
        # Goods that cannot be made.
        lone = works_of("goods 2\n0: 2")
        pool = [("strike", 0), ("let", recipe_of(2, "1: 5"))]
        for goal, wanted in ((("made", 1), (0, 0, None, None)), (("at most", 1, (9, 1)), (0, 0, None, None)),
                             (("dearer", 0, 1), (0, 0, 0, 0)), (("dearer", 1, 0), (0, 0, None, 0)),
                             (("used", 0), (None, 0, None, 0)), (("used", 1), (0, 0, None, None))):
            told = tuple(first_unmet(lone, pool, choice, (goal,)) for choice in ((), (0,), (1,), (0, 1)))
            self.assertEqual(told, wanted, goal)

    def test_numbers_of_let_recipes_are_those_of_the_pool(self):
        pool = [("let", recipe_of(2, "0: 9")), ("strike", 0), ("let", recipe_of(2, "0: 1"))]
        self.assertEqual(numbers_behind(WORKS, pool), (1, 2, 3))
        for choice, wanted in (((2,), (0, 0, None)), ((0, 1), (0, None, 0)), ((1, 2), (0, 0, None)), ((), (None, 0, 0)),
                               ((0, 1, 2), (0, 0, None))):
            told = tuple(first_unmet(WORKS, pool, choice, [("used", number)]) for number in (0, 2, 3))
            self.assertEqual(told, wanted, choice)

    def test_drawn(self):
        draw = Draw(941)
        seen = {}
        for _ in range(300):
            works, pool, goals, behind = drawn_case(draw)
            for choice in list(behind.told)[::3]:
                told = first_unmet(works, [list(change) for change in pool], list(choice),
                                   [list(goal) for goal in goals])
                wanted = behind.first_unmet(choice, goals)
                self.assertEqual(told, wanted)
                self.assertIs(told.__class__, wanted.__class__)
                seen[told] = seen.get(told, 0) + 1
        self.assertTrue(len(seen) == 5 and min(seen.values()) > 5, seen)


class TestMends(unittest.TestCase):
    def test_example(self):
        told = find_mends(WORKS, POOL, GOALS)
        self.assertEqual(told.choices, ((0,), (2,)))
        self.assertEqual(told.needed, ())
        self.assertEqual(told, Mends((((0,), (TWO, ONE)), ((2,), (TWO, HALF))),
                                     (((), (TWO, TWO), 0), ((1,), (ONE, TWO), 0))))
        self.assertEqual(find_spoilers(WORKS, POOL, GOALS), (Spoiler((0,), 1, 0),))

    def test_edges(self):
        # The empty choice is good: it is the one least choice.
        told = find_mends(WORKS, POOL, [("made", 0)])
        self.assertEqual(told, Mends((((), (TWO, TWO)),), ()))
        self.assertEqual((told.choices, told.needed), (((),), ()))
        # No choice is good.
        told = find_mends(WORKS, POOL, [("at most", 0, (1, 9))])
        self.assertEqual((told.least, len(told.others), told.choices, told.needed), ((), 8, (), ()))
        self.assertEqual(find_spoilers(WORKS, POOL, [("at most", 0, (1, 9))]), ())
        # Places that are in every least choice.
        told = find_mends(WORKS, POOL, [("at most", 0, ONE), ("at most", 1, ONE)])
        self.assertEqual((told.choices, told.needed), (((0, 1), (1, 2)), (1,)))
        self.assertEqual(find_mends(WORKS, POOL, [("used", 4), ("used", 3)]).needed, (1, 2))

    def test_properties_of_any_mends(self):
        told = Mends((((2, 3), None), ((1, 2, 3), None), ((0, 3), None)), None)
        self.assertEqual((told.choices, told.needed), (((2, 3), (1, 2, 3), (0, 3)), (3,)))
        for name in ("choices", "needed"):
            self.assertIsInstance(vars(Mends)[name], property)

    def test_drawn(self):
        draw = Draw(942)
        several, none, needed = 0, 0, 0
        for _ in range(250):
            works, pool, goals, behind = drawn_case(draw)
            told = find_mends(works, [list(change) for change in pool], [list(goal) for goal in goals])
            self.assertIs(told.__class__, Mends)
            is_plain(self, (told.least, told.others, told.choices, told.needed))
            self.assertEqual((told.least, told.others), rows_of(behind, goals))
            self.assertEqual(told.choices, tuple(behind.least(goals)))
            in_all = set.intersection(*[set(choice) for choice in told.choices]) if told.choices else set()
            self.assertEqual(told.needed, tuple(sorted(in_all)))
            self.assertIsNone(mends_fault(works, pool, goals, told))
            self.assertEqual(told, find_mends(works, pool, goals))
            several += len(told.choices) > 1
            none += not told.choices
            needed += bool(told.needed)
        self.assertTrue(min(several, none, needed) > 10, (several, none, needed))

    def test_spoilers(self):
        draw = Draw(943)
        found = 0
        for _ in range(150):
            works, pool, goals, behind = drawn_case(draw)
            wanted = []
            for choice in behind.least(goals):
                for added in range(len(pool)):
                    goal = None if added in choice else behind.first_unmet(tuple(sorted(choice + (added,))), goals)
                    if goal is not None:
                        wanted.append(Spoiler(choice, added, goal))
            told = find_spoilers(works, pool, goals)
            self.assertEqual(told, tuple(wanted))
            self.assertIsInstance(told, tuple)
            found += len(told)
        self.assertTrue(found > 20, found)

    def test_tame_pools_have_no_spoilers(self):
        draw = Draw(944)
        several = 0
        for _ in range(100):
            works, pool, goals, behind = drawn_case(draw, True)
            self.assertEqual(find_spoilers(works, pool, goals), ())
            least = find_mends(works, pool, goals).choices
            for choice in behind.told:
                good = first_unmet(works, pool, choice, goals) is None
                self.assertEqual(good, any(set(one) <= set(choice) for one in least))
            several += least not in ((), ((),))
        self.assertTrue(several > 15, several)

    def test_passed_lists_stay(self):
        pool, goals = [list(change) for change in POOL], [["dearer", 0, 1]]
        find_mends(WORKS, pool, goals), find_spoilers(WORKS, pool, goals), first_unmet(WORKS, pool, [0], goals)
        mends_fault(WORKS, pool, goals, find_mends(WORKS, pool, goals))
        self.assertEqual((pool, goals), ([list(change) for change in POOL], [["dearer", 0, 1]]))


class TestFaults(unittest.TestCase):
    def calls(self):
        """All calls that take a pool and goals, each with what stands between them and behind."""
        return ((find_mends, (), ()), (find_spoilers, (), ()), (mends_fault, (), (None,)), (first_unmet, ((),), ()))

    def check(self, error, told, pool, goals):
        for call, between, behind in self.calls():
            fault(self, error, told, call, WORKS, pool, *between, goals, *behind)

    def test_pools(self):
        for thing in NO_SEQUENCES + ((), [], POOL * 2):
            self.check(BadChange, {"index": 0, "what": "pool"}, thing, None)
        for thing in NO_CHANGES:
            self.check(BadChange, {"index": 1, "what": "change"}, [POOL[0], thing], None)
        self.check(BadChange, {"index": 0, "what": "recipe"}, [("let", Recipe(0, ONE, (ZERO,)))], None)
        self.check(BadChange, {"index": 1, "what": "number"}, [POOL[0], ("strike", 2)], None)
        self.check(BadChange, {"index": 0, "what": "labour"}, [("labour", 1, ZERO)], None)
        wide = Works(2, WORKS.recipes * 6)
        fault(self, BadChange, {"index": 1, "what": "many"}, find_mends, wide, [("strike", 0), POOL[0]], None)
        self.assertEqual(len(find_mends(WORKS, (POOL + POOL)[:5], GOALS).others), 4)

    def test_choices_stand_before_goals(self):
        for thing in NO_SEQUENCES + ((3,), (-1,), (1, 0), (0, 0), (True,), (False, 1), ("0",), (None,), (0, 1, 2, 3)):
            fault(self, BadChoice, {}, first_unmet, WORKS, POOL, thing, None)
            fault(self, BadChange, {"index": 0, "what": "pool"}, first_unmet, WORKS, (), thing, None)

    def test_goals(self):
        made = ("made", 0)
        for thing in NO_SEQUENCES + ((), [], [made] * 5):
            self.check(BadGoal, {"index": 0, "what": "many"}, POOL, thing)
        self.assertIsNone(first_unmet(WORKS, POOL, (), [made] * 4))
        wrong = NO_SEQUENCES + ((), ("made",), ("made", 0, 1), ("at most", 0), ("at most", 0, ONE, 1), ("dearer", 0),
                                ("dearer", 0, 1, 2), ("used",), ("used", 0, 1), ("Made", 0), (None, 0), (0, "made"),
                                (["made"], 0), ("at_most", 0, ONE), ({}, 0, 1))
        for thing in wrong:
            self.check(BadGoal, {"index": 0, "what": "goal"}, POOL, [thing])
            self.check(BadGoal, {"index": 2, "what": "goal"}, POOL, (made, ["dearer", 0, 1], thing, None))
        for thing in NO_WHOLES + (2, -1):
            for goal in (("made", thing), ("at most", thing, None), ("dearer", thing, None), ("dearer", 0, thing)):
                self.check(BadGoal, {"index": 1, "what": "good"}, POOL, [made, goal])
        for thing in NO_RATIOS:
            self.check(BadGoal, {"index": 0, "what": "ratio"}, POOL, [("at most", 0, thing)])
        for thing in NO_WHOLES + (5, -1):
            self.check(BadGoal, {"index": 3, "what": "number"}, POOL, [made, made, made, ("used", thing)])
        self.assertEqual(first_unmet(WORKS, POOL, (), [("used", 4)]), 0)
        # Only let changes have numbers of their own.
        self.check(BadGoal, {"index": 0, "what": "number"}, [("strike", 0), POOL[0], ("labour", 0, ONE)], [("used", 3)])


class TestJudge(unittest.TestCase):
    RIGHT = find_mends(WORKS, POOL, GOALS)

    def judge(self, least, others):
        return mends_fault(WORKS, POOL, GOALS, Mends(least, others))

    def test_order(self):
        least, others = self.RIGHT.least, self.RIGHT.others
        self.assertIsNone(self.judge(least, others))
        wrong = NO_SEQUENCES + (list(least), (list(least[0]), least[1]), least + ((),), (((0,),),),
                                least + (((1,), 1, 1),), ((0, None),), (([0], None),), (((3,), None),), (((-1,), None),), (((True,), None),),
                                (((1, 0), None),), (((0, 0), None),), (("0", None),), least[::-1], least[:1] * 2,
                                (((0, 1), None), ((2,), None)), (None,), (((None,), None),))
        for thing in wrong:
            self.assertEqual(self.judge(thing, others), "order", thing)
            self.assertEqual(self.judge(thing, None), "order")
        wrong = NO_SEQUENCES + (list(others), others + ((),), (list(others[0]),), others[::-1], others[:1] * 2, least,
                                tuple(row[:2] for row in others), tuple(row + (0,) for row in others),
                                (([], None, 0),), (((3,), None, 0),), (((1, 0), None, 0),),
                                (((0, 1), 0, 0), ((2,), 0, 0)))
        for thing in wrong:
            self.assertEqual(self.judge(least, thing), "order", thing)

    def test_within(self):
        def least(*choices):
            return tuple((choice, None) for choice in choices)

        def others(*choices):
            return tuple((choice, None, None) for choice in choices)

        for one, two in ((least((0,), (0, 1)), ()), (least((0,), (2,), (0, 1, 2)), ()), (least((), (0,)), ()),
                         (least((0,)), others((0,))), (least((0,)), others((), (0, 1))), (least(()), others((1,))),
                         (least((0,), (2,)), others((), (1,), (1, 2)))):
            self.assertEqual(self.judge(one, two), "within", (one, two))
        for one, two in (((), ()), (least((0,), (2,)), others(())), (least((0,), (2,)), others((1,))),
                         (least((0,)), others((), (1,), (2,))), ((), others(*lots_of(3)[:-1]))):
            self.assertEqual(self.judge(one, two), "lacking", (one, two))
        for one, two in ((least((0,), (2,)), others((), (1,))), (least(()), ()), ((), others(*lots_of(3))),
                         (least((1,)), others((), (0,), (2,), (0, 2)))):
            self.assertEqual(self.judge(one, two), "prices", (one, two))

    def test_prices_met_and_unmet(self):
        least, others = self.RIGHT.least, self.RIGHT.others
        for thing in NO_SEQUENCES + ((), (TWO,), [TWO, ONE], (TWO, TWO), (TWO, None), (TWO, (True, 1)), (TWO, ONE, ONE),
                                     (2, 1)):
            self.assertEqual(self.judge((((0,), thing), least[1]), others), "prices", thing)
            self.assertEqual(self.judge(least, (others[0], ((1,), thing, 0))) if thing != (TWO, TWO) else "prices",
                             "prices")
        # Told as least, but not good; the other rows are right.
        turned = find_mends(WORKS, POOL, [("dearer", 1, 0)])
        self.assertEqual(turned.choices, ((1,),))
        self.assertEqual(self.judge(turned.least, turned.others), "met")
        self.assertEqual(self.judge(turned.least, tuple(row[:2] + (None,) for row in turned.others)), "met")
        wrong = find_mends(WORKS, POOL, [("at most", 0, (1, 9))])
        self.assertEqual(self.judge(wrong.least, wrong.others), "unmet")
        for thing in NO_WHOLES + (1, -1):
            self.assertEqual(self.judge(least, (others[0], others[1][:2] + (thing,))), "unmet")
            self.assertEqual(self.judge(least, (others[0][:2] + (thing,), others[1])), "unmet")

    def test_spoilt_answers(self):
        draw = Draw(945)
        seen = {}
        for _ in range(250):
            works, pool, goals, behind = drawn_case(draw)
            told = find_mends(works, pool, goals)
            least, others = list(told.least), list(told.others)
            for _ in range(draw.whole(1, 2)):
                kind = draw.whole(1, 6)
                rows = draw.pick([rows for rows in (least, others) if rows] or [others])
                at = draw.whole(0, len(rows) - 1) if rows else 0
                if kind == 1 and rows:
                    rows.pop(at)
                elif kind == 2 and rows:
                    rows[at] = (rows[at][0], tuple((7, 3) for _ in range(works.goods))) + rows[at][2:]
                elif kind == 3 and others:
                    at = draw.whole(0, len(others) - 1)
                    others[at] = others[at][:2] + (others[at][2] + 1,)
                elif kind == 4 and least:
                    row = least.pop(draw.whole(0, len(least) - 1))
                    others = sorted(others + [row + (0,)], key=lambda one: (len(one[0]), one[0]))
                elif kind == 5 and others:
                    row = others.pop(draw.whole(0, len(others) - 1))
                    least = sorted(least + [row[:2]], key=lambda one: (len(one[0]), one[0]))
                elif rows:
                    rows.append(rows[0])
            spoilt = Mends(tuple(least), tuple(others))
            word = mends_fault(works, pool, goals, spoilt)
            self.assertEqual(word is None, spoilt == told)
            self.assertEqual(word, self.word(works, pool, goals, behind, spoilt))
            seen[word] = seen.get(word, 0) + 1
        self.assertTrue(len(seen) == 7 and min(seen.values()) >= 3, seen)

    def word(self, works, pool, goals, behind, told):
        """The first word, told by the test itself."""
        least, others = [row[0] for row in told.least], [row[0] for row in told.others]
        for choices in (least, others):
            if choices != sorted(set(choices), key=lambda one: (len(one), one)):
                return "order"
        for one in least:
            if any(set(one) < set(other) for other in least) or any(set(one) <= set(other) for other in others):
                return "within"
        for choice in behind.told:
            if choice not in others and not any(set(one) <= set(choice) for one in least):
                return "lacking"
        for row in told.least + told.others:
            if row[1] != tuple(None if price is None else back(price) for price in behind.told[row[0]][0]):
                return "prices"
        if any(behind.first_unmet(choice, goals) is not None for choice in least):
            return "met"
        return "unmet" if any(row[2] != behind.first_unmet(row[0], goals) for row in told.others) else None


if __name__ == "__main__":
    unittest.main()
