import unittest

from leastlabour.bench import Bench
from leastlabour.changes import apply_changes
from leastlabour.errors import BadChange, NoChange
from leastlabour.prices import greatest_prices
from leastlabour.ratios import ONE, ZERO
from leastlabour.works import Recipe, Works
from leastlabour.workstext import recipe_of
from tests.drawing import HALF, NO_WHOLES, Draw, fault, is_plain
from tests.test_buying import MADE, bare
from tests.test_changes import NO_CHANGES, drawn_change

TWO, THREE = (2, 1), (3, 1)
LET = ("let", recipe_of(2, "1: 1/3"))
STRIKE = ("strike", 0)
LESS = ("labour", 2, ONE)


class Halt(Exception):
    """What a trial of the tests ends in."""


def seen_of(bench):
    """All that can be seen of a bench."""
    return bench.works, bench.works_now, bench.standing, bench.log, len(bench), list(bench), bench.prices_now()


class BenchCase(unittest.TestCase):
    def check(self, bench):
        """Checks that all that the bench tells fits together."""
        changes = [change for _, change in bench.standing]
        self.assertEqual(bench.works_now, apply_changes(bench.works, changes))
        self.assertEqual(bench.prices_now(), greatest_prices(bench.works_now))
        self.assertEqual(len(bench), len(bench.standing))
        self.assertEqual(tuple(bench), bench.standing)
        is_plain(self, (bench.standing, bench.log, bench.prices_now()))
        standing = {}
        for word, number, change in bench.log:
            if word == "put":
                standing[number] = change
            else:
                self.assertEqual((word, standing.pop(number)), ("back", change))
        self.assertEqual(tuple(standing.items()), bench.standing)


class TestBench(BenchCase):
    def test_a_new_bench(self):
        bench = Bench(MADE)
        self.assertIs(bench.works, MADE)
        self.assertEqual((bench.works_now, bench.standing, bench.log, len(bench)), (MADE, (), (), 0))
        self.assertEqual(list(bench), [])
        self.assertEqual(bench.prices_now(), ((3, 2), (7, 4)))
        self.check(bench)

    def test_putting_and_taking_back(self):
        bench = Bench(MADE)
        self.assertEqual([bench.put(LET), bench.put(list(STRIKE)), bench.put(LESS)], [1, 2, 3])
        self.assertEqual(bench.standing, ((1, LET), (2, STRIKE), (3, LESS)))
        self.assertEqual(bench.works_now, Works(2, (MADE.recipes[1], Recipe(0, ONE, (ZERO,) * 2), LET[1])))
        self.assertIsNone(bench.take_back(2))
        self.assertEqual(bench.standing, ((1, LET), (3, LESS)))
        self.assertEqual(bench.log, (("put", 1, LET), ("put", 2, STRIKE), ("put", 3, LESS), ("back", 2, STRIKE)))
        self.assertEqual(bench.works_now, apply_changes(MADE, [LET, LESS]))
        # Numbers go on, also if some were taken back.
        bench.take_back(3)
        self.assertEqual(bench.put(LESS), 4)
        self.assertEqual(list(bench), [(1, LET), (4, LESS)])
        self.assertIs(bench.works, MADE)
        self.check(bench)

    def test_the_least_standing_labour_counts(self):
        bench = Bench(MADE)
        for labour in (TWO, HALF, ONE):
            bench.put(("labour", 0, labour))
        self.assertEqual(bench.works_now.recipes[0].labour, HALF)
        bench.take_back(2)
        self.assertEqual(bench.works_now.recipes[0].labour, ONE)
        bench.take_back(3)
        self.assertEqual(bench.works_now.recipes[0].labour, TWO)
        bench.take_back(1)
        self.assertEqual(bench.works_now, MADE)

    def test_numbers_that_do_not_stand(self):
        bench = Bench(MADE)
        for thing in NO_WHOLES + (0, 1, -1):
            fault(self, NoChange, {"number": thing}, bench.take_back, thing)
        bench.put(STRIKE), bench.put(LESS)
        bench.take_back(2)
        before = seen_of(bench)
        for thing in NO_WHOLES + (0, 2, 3, -1, (1, 1), "1"):
            fault(self, NoChange, {"number": thing}, bench.take_back, thing)
            self.assertEqual(seen_of(bench), before)
        bench.take_back(1)
        fault(self, NoChange, {"number": 1}, bench.take_back, 1)

    def test_wrong_changes(self):
        bench = Bench(MADE)
        bench.put(STRIKE), bench.put(LET), bench.put(LESS)
        bench.take_back(1)
        before = seen_of(bench)
        for thing in NO_CHANGES:
            fault(self, BadChange, {"index": 2, "what": "change"}, bench.put, thing)
        fault(self, BadChange, {"index": 2, "what": "recipe"}, bench.put, ("let", Recipe(0, ONE, (ZERO,))))
        # A let recipe has no number of the works.
        fault(self, BadChange, {"index": 2, "what": "number"}, bench.put, ("strike", 3))
        fault(self, BadChange, {"index": 2, "what": "labour"}, bench.put, ("labour", 1, ZERO))
        self.assertEqual(seen_of(bench), before)
        self.assertEqual(bench.put(STRIKE), 4)

    def test_twelve_recipes(self):
        works = bare(11)
        more = ("let", Recipe(0, ONE, (ZERO,) * works.goods))
        bench = Bench(works)
        bench.put(("strike", 3)), bench.put(more)
        before = seen_of(bench)
        fault(self, BadChange, {"index": 2, "what": "many"}, bench.put, more)
        self.assertEqual(seen_of(bench), before)
        bench.take_back(2)
        self.assertEqual(bench.put(more), 3)

    def test_a_list_that_was_put_is_not_kept(self):
        change = ["labour", 0, HALF]
        bench = Bench(MADE)
        bench.put(change)
        change[2] = THREE
        self.assertEqual(bench.standing, ((1, ("labour", 0, HALF)),))
        self.assertEqual(bench.log, (("put", 1, ("labour", 0, HALF)),))
        self.assertEqual(bench.works_now, MADE.with_labour(0, HALF))
        bench.put(["strike", 1])
        self.assertEqual(bench.works_now.recipes[0].labour, HALF)
        self.check(bench)

    def test_works_depend_on_the_standing_changes_alone(self):
        draw = Draw(961)
        for _ in range(40):
            works = draw.works(draw.whole(1, 3), 5)
            changes = [drawn_change(draw, works) for _ in range(4)]
            one, other = Bench(works), Bench(works)
            for change in changes:
                one.put(change)
                self.check(one)
            # The other bench gets them with further ones between, taken back in another order.
            extra = []
            for change in changes:
                if draw.chance(1, 2):
                    extra.append(other.put(drawn_change(draw, works)))
                other.put(change)
                if extra and draw.chance(1, 2):
                    other.take_back(extra.pop(draw.whole(0, len(extra) - 1)))
                self.check(other)
            for number in extra:
                other.take_back(number)
            self.check(other)
            self.assertEqual([change for _, change in other], changes)
            self.assertEqual(other.works_now, one.works_now)


class TestTrials(BenchCase):
    def bench(self):
        bench = Bench(MADE)
        bench.put(STRIKE), bench.put(LESS)
        bench.take_back(1)
        return bench

    def test_tried(self):
        bench = self.bench()
        before = seen_of(bench)
        told = []

        def work(held):
            self.assertIs(held, bench)
            told.append((held.put(LET), held.put(STRIKE), held.take_back(2), len(held)))
            self.check(held)
            return told

        self.assertIs(bench.tried(work), told)
        self.assertEqual(told, [(3, 4, None, 2)])
        self.assertEqual(seen_of(bench), before)
        # The numbers given are as before, too.
        self.assertEqual(bench.put(LET), 3)
        self.assertIsNone(bench.tried(lambda held: None))

    def test_tried_with_an_error(self):
        bench = self.bench()
        before = seen_of(bench)

        def work(held):
            held.put(LET)
            raise Halt("enough")

        with self.assertRaises(Halt) as caught:
            bench.tried(work)
        self.assertEqual(str(caught.exception), "enough")
        self.assertEqual(seen_of(bench), before)
        fault(self, NoChange, {"number": 9}, bench.tried, lambda held: (held.put(LET), held.take_back(9)))
        self.assertEqual(seen_of(bench), before)
        self.assertEqual(bench.put(LET), 3)

    def test_trial(self):
        bench = self.bench()
        before = seen_of(bench)
        with bench.trial() as held:
            self.assertIs(held, bench)
            self.assertEqual(held.put(LET), 3)
            held.take_back(2)
            self.check(held)
        self.assertEqual(seen_of(bench), before)
        with self.assertRaises(Halt):
            with bench.trial():
                bench.put(LET)
                raise Halt()
        self.assertEqual(seen_of(bench), before)
        with self.assertRaises(BadChange):
            with bench.trial() as held:
                held.put(LET)
                held.put(("strike", 3))
        self.assertEqual(seen_of(bench), before)
        self.assertEqual(bench.put(LET), 3)

    def test_as_at_the_entry_and_not_as_at_the_call(self):
        bench = self.bench()
        trial = bench.trial()
        bench.put(LET)
        entered = seen_of(bench)
        with trial as held:
            held.take_back(3)
            held.put(STRIKE)
        self.assertEqual(seen_of(bench), entered)
        self.assertEqual(bench.put(STRIKE), 4)

    def test_trials_within_one_another(self):
        bench = self.bench()
        before = seen_of(bench)
        with bench.trial() as outer:
            outer.put(LET)
            between = seen_of(bench)
            with outer.trial() as inner:
                inner.put(STRIKE)
                inner.take_back(2)
                self.assertEqual(inner.tried(lambda held: (held.take_back(3), len(held))), (None, 1))
                self.assertEqual(len(inner), 2)
            self.assertEqual(seen_of(bench), between)
            with self.assertRaises(Halt):
                with bench.trial():
                    bench.put(STRIKE)
                    bench.tried(self.halting)
            self.assertEqual(seen_of(bench), between)
        self.assertEqual(seen_of(bench), before)

    def halting(self, held):
        held.put(LESS)
        raise Halt()

    def test_two_benches_are_apart(self):
        one, other = self.bench(), self.bench()
        with one.trial():
            one.put(LET)
            other.put(STRIKE)
        self.assertEqual((len(one), len(other)), (1, 2))


if __name__ == "__main__":
    unittest.main()
