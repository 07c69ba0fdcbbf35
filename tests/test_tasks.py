import inspect
import unittest

from leastlabour import tasks
from leastlabour.errors import BadTask
from leastlabour.ratios import ONE, ZERO, make_ratio
from leastlabour.tasks import (Barred, Endless, Fails, Follows, Found, Greatest, Least, barred_lots, find_from,
                               follows_from, least_cost, most_gain, needed_rows)
from tests.drawing import (HALF, NO_RATIOS, NO_SEQUENCES, NO_WHOLES, Draw, back, fault, frac, fracs, generated_fault,
                           ratio_kinds, row_of_wholes, summed)
from tests.sums import (added_up, can_be_met, numbers_meet, row_weights, tell_rows, way_is_endless, weights_bar)

ROWS = ((ONE, ONE), ((2, 1), ZERO))
LEAST = ((3, 1), (2, 1))
COSTS = ((2, 1), ONE)
BARRED_ROWS = ROWS + (((-1, 1), (-1, 1)),)
BARRED_LEAST = LEAST + ((-2, 1),)


def negative_row(row):
    return tuple((-top, bottom) for top, bottom in row)


def drawn_task(draw, most_rows=7, most_places=5):
    """A task of any kind: half of them are met by some drawn numbers, some have the sum of two rows as a third."""
    places = draw.whole(1, most_places)
    zeros = draw.pick((0, 3, 6))
    rows = [draw.row(places, -3, 3, zeros) for _ in range(draw.whole(1, most_rows))]
    if draw.chance(1, 3):
        rows[-1] = tuple(back(frac(a) + frac(b)) for a, b in zip(draw.pick(rows), draw.pick(rows)))
    if draw.chance(1, 2):
        numbers = draw.row(places, 0, 3, 4)
        least = [back(summed(fracs(row), fracs(numbers)) - frac(draw.ratio(0, 1))) for row in rows]
    else:
        least = draw.row(len(rows), -3, 2, 3)
    return rows, list(least)


class TestAnswers(unittest.TestCase):
    def check_found(self, rows, least):
        told = find_from(rows, least)
        if told.__class__ is Found:
            numbers_meet(self, rows, least, told.numbers)
        else:
            self.assertIs(told.__class__, Barred)
            weights_bar(self, rows, least, told.weights)
        return told

    def check_least(self, rows, least, costs):
        told = least_cost(rows, least, costs)
        if told.__class__ is Least:
            numbers_meet(self, rows, least, told.numbers)
            ratio_kinds(self, [told.value])
            self.assertEqual(summed(fracs(costs), fracs(told.numbers)), frac(told.value))
            weights = row_weights(self, rows, told.weights)
            for one, cost in zip(added_up(rows, weights), costs):
                self.assertTrue(one <= frac(cost))
            self.assertEqual(summed(fracs(least), weights), frac(told.value))
        elif told.__class__ is Endless:
            numbers_meet(self, rows, least, told.numbers)
            way_is_endless(self, rows, costs, told.way)
        else:
            self.assertIs(told.__class__, Barred)
            weights_bar(self, rows, least, told.weights)
        return told

    def check_greatest(self, rows, most, gains):
        told = most_gain(rows, most, gains)
        turned = [negative_row(row) for row in rows]
        low = negative_row(most)
        if told.__class__ is Greatest:
            numbers_meet(self, turned, low, told.numbers)
            ratio_kinds(self, [told.value])
            self.assertEqual(summed(fracs(gains), fracs(told.numbers)), frac(told.value))
            weights = row_weights(self, rows, told.weights)
            for one, gain in zip(added_up(rows, weights), gains):
                self.assertTrue(one >= frac(gain))
            self.assertEqual(summed(fracs(most), weights), frac(told.value))
        elif told.__class__ is Endless:
            numbers_meet(self, turned, low, told.numbers)
            way_is_endless(self, turned, negative_row(gains), told.way)
        else:
            self.assertIs(told.__class__, Barred)
            weights_bar(self, turned, low, told.weights)
        return told

    def check_follows(self, rows, least, wanted, total):
        told = follows_from(rows, least, wanted, total)
        if told.__class__ is Follows:
            weights = row_weights(self, rows, told.weights)
            for one, want in zip(added_up(rows, weights), wanted):
                self.assertTrue(one <= frac(want))
            self.assertTrue(summed(fracs(least), weights) >= frac(total))
            self.assertTrue(can_be_met(*tell_rows(rows, least)))
        elif told.__class__ is Fails:
            numbers_meet(self, rows, least, told.numbers)
            self.assertTrue(summed(fracs(wanted), fracs(told.numbers)) < frac(total))
        else:
            self.assertIs(told.__class__, Barred)
            weights_bar(self, rows, least, told.weights)
        return told

    def test_example(self):
        told = self.check_least(ROWS, LEAST, COSTS)
        self.assertEqual(told, Least((4, 1), ((1, 1), (2, 1)), ((1, 1), (1, 2))))
        self.assertEqual(self.check_found(BARRED_ROWS, BARRED_LEAST), Barred((1, 0, 1)))
        self.assertEqual(self.check_least(BARRED_ROWS, BARRED_LEAST, COSTS), Barred((1, 0, 1)))

    def test_drawn_tasks(self):
        draw = Draw(11)
        kinds = {kind: 0 for kind in (Found, Barred, Least, Endless, Greatest, Follows, Fails)}
        for _ in range(500):
            rows, least = drawn_task(draw)
            costs = draw.row(len(rows[0]), draw.pick((-3, 0)), 3, 3)
            total = draw.ratio(-3, 3)
            kinds[self.check_found(rows, least).__class__] += 1
            kinds[self.check_least(rows, least, costs).__class__] += 1
            kinds[self.check_greatest(rows, least, costs).__class__] += 1
            if len(rows) <= 5 and len(rows[0]) <= 4:
                kinds[self.check_follows(rows, least, list(costs), total).__class__] += 1
        self.assertTrue(min(kinds.values()) > 20, kinds)

    def test_totals_of_zero(self):
        draw = Draw(12)
        for _ in range(150):
            places = draw.whole(1, 6)
            rows = [draw.row(places, -3, 3, 5, 1) for _ in range(draw.whole(1, 9))]
            least = (ZERO,) * len(rows)
            self.assertIs(self.check_found(rows, least).__class__, Found)
            self.check_least(rows, least, draw.row(places, -2, 3, 5, 1))
            self.check_greatest(rows, least, draw.row(places, -2, 3, 5, 1))

    def test_empty_rows_and_costs(self):
        self.check_found(((ZERO, ZERO),), (ZERO,))
        self.assertEqual(self.check_found(((ZERO, ZERO),), ((1, 9),)), Barred((1,)))
        self.assertEqual(self.check_least(((ZERO,),), ((-1, 1),), (ZERO,)).value, ZERO)
        self.assertEqual(self.check_least(((ONE,),), ((-3, 1),), ((2, 1),)).value, ZERO)
        self.assertEqual(self.check_least(((ZERO,),), (ZERO,), ((-2, 7),)).way, (1,))
        self.assertEqual(self.check_least(((ONE,),), ((3, 2),), (ZERO,)).value, ZERO)

    def test_classes_of_one_place(self):
        self.assertIs(self.check_least(((ONE,),), (ONE,), ((-1, 1),)).__class__, Endless)
        self.assertEqual(self.check_least((((-1, 1),),), ((-2, 1),), ((-1, 1),)).value, (-2, 1))
        self.assertIs(self.check_least((((-1, 1),),), (ONE,), ((-1, 1),)).__class__, Barred)
        self.assertIs(self.check_least(((ZERO,), (ONE,)), (ONE, ONE), ((-1, 1),)).__class__, Barred)
        self.assertEqual(self.check_greatest((((2, 1),),), ((3, 1),), ((5, 1),)).value, (15, 2))
        self.assertIs(self.check_greatest((((-2, 1),),), ((3, 1),), ((5, 1),)).__class__, Endless)
        self.assertIs(self.check_greatest((((2, 1),),), ((-3, 1),), ((5, 1),)).__class__, Barred)

    def test_value_is_not_told_for_barred_ones_with_endless_costs(self):
        rows, least = (((-1, 1), ZERO), (ZERO, ONE)), (ONE, ZERO)
        self.assertIs(self.check_least(rows, least, ((-1, 1), (-1, 1))).__class__, Barred)
        self.assertIs(self.check_follows(rows, least, (ZERO, (-1, 1)), ONE).__class__, Barred)

    def test_ways_in_a_ring(self):
        # Rows at which many steps stay at one place: without care the steps go in a ring.
        rows = (((-1, 2), (11, 2), (5, 2), (-9, 1)), ((-1, 2), (3, 2), HALF, (-1, 1)), ((-1, 1), ZERO, ZERO, ZERO))
        told = self.check_least(rows, (ZERO, ZERO, (-1, 1)), ((-10, 1), (57, 1), (9, 1), (24, 1)))
        self.assertEqual(told.value, (-1, 1))
        rows = (((-1, 4), (60, 1), (1, 25), (-9, 1)), ((-1, 2), (90, 1), (1, 50), (-3, 1)), (ZERO, ZERO, (-1, 1), ZERO))
        told = self.check_least(rows, (ZERO, ZERO, (-1, 1)), ((-3, 4), (150, 1), (-1, 50), (6, 1)))
        self.assertEqual(told.value, (-1, 20))

    def test_follows(self):
        self.assertEqual(self.check_follows(ROWS, LEAST, ((2, 1), ONE), (4, 1)), Follows((ONE, HALF)))
        self.assertIs(self.check_follows(ROWS, LEAST, ((2, 1), ONE), (7, 2)).__class__, Follows)
        self.assertIs(self.check_follows(ROWS, LEAST, ((2, 1), ONE), (9, 2)).__class__, Fails)
        self.assertIs(self.check_follows(ROWS, LEAST, ((-1, 1), ONE), (-100, 1)).__class__, Fails)
        self.assertEqual(self.check_follows(BARRED_ROWS, BARRED_LEAST, COSTS, (-9, 1)), Barred((1, 0, 1)))
        self.assertEqual(self.check_follows(((ONE,),), ((-1, 1),), (ZERO,), ZERO), Follows((ZERO,)))

    def test_64_rows_and_24_places(self):
        draw = Draw(13)
        rows = [draw.row(24, -2, 2, 5) for _ in range(64)]
        numbers = draw.row(24, 0, 3, 4, 1)
        least = [back(summed(fracs(row), fracs(numbers))) for row in rows]
        self.assertIs(self.check_found(rows, least).__class__, Found)
        costs = [back(summed([frac(row[k]) for row in rows], [1] * 64)) for k in range(24)]
        told = self.check_least(rows, least, costs)
        self.assertIs(told.__class__, Least)
        self.assertEqual(frac(told.value), sum(fracs(least)))
        last = tuple(back(-frac(cost)) for cost in costs)
        self.assertIs(self.check_found(rows[1:] + [last], least[1:] + [back(1 - sum(fracs(least)))]).__class__, Barred)

    def test_numbers_of_many_figures(self):
        long = 10 ** 299 + 9
        rows = ((make_ratio(long, 7), (1, long)), (make_ratio(-long, 3), make_ratio(long - 2, long)))
        self.check_least(rows, ((long, 2), (1, long)), ((1, long), make_ratio(long, 5)))
        self.check_found(rows + (((-1, 1), (-1, long)),), ((long, 2), (1, long), (-1, long)))


class TestNeededRows(unittest.TestCase):
    def needed(self, rows, least):
        """The rows that remain, told by leaving out places one after the other."""
        rows, least = tell_rows(rows, least)
        remaining = list(range(len(rows)))
        for index in range(len(rows)):
            others = [k for k in remaining if k != index]
            # Numbers that meet the others and fall short of this row, times a t so great that they fall short by 1.
            lines = [rows[k] + [-least[k]] for k in others]
            lines.append([-one for one in rows[index]] + [least[index]])
            if not can_be_met(lines + [[0] * len(rows[0]) + [1]], [0] * len(others) + [1, 1]):
                remaining = others
        return tuple(remaining)

    def test_small_ones(self):
        self.assertEqual(needed_rows(((ONE,), ((2, 1),), (ONE,)), (ONE, (2, 1), ONE)), (2,))
        self.assertEqual(needed_rows(((ONE,),), (ZERO,)), ())
        self.assertEqual(needed_rows(((ONE,),), (ONE,)), (0,))
        self.assertEqual(needed_rows(((ZERO,),), ((-1, 1),)), ())
        self.assertEqual(needed_rows(((ZERO,),), (ONE,)), (0,))
        self.assertEqual(needed_rows((((-1, 1),),), (ZERO,)), (0,))

    def test_barred_ones(self):
        # Without row 0 the others still bar: row 0 follows, for no numbers meet them.
        self.assertEqual(needed_rows(((ONE,), (ZERO,), ((-1, 1),)), (ONE, ONE, ONE)), (2,))
        self.assertEqual(needed_rows(((ONE,), ((-1, 1),)), (ONE, ZERO)), (0, 1))
        self.assertEqual(needed_rows(BARRED_ROWS, BARRED_LEAST), (0, 2))

    def test_drawn(self):
        draw = Draw(14)
        for _ in range(150):
            rows, least = drawn_task(draw, 5, 3)
            told = needed_rows(rows, least)
            self.assertIsInstance(told, tuple)
            self.assertEqual(told, self.needed(rows, least), (rows, least))

    def test_remaining_rows_are_shown_needed_and_enough(self):
        draw = Draw(15)
        for _ in range(40):
            rows, least = drawn_task(draw, 12, 4)
            told = needed_rows(rows, least)
            kept, low = [rows[k] for k in told], [least[k] for k in told]
            for index, row in enumerate(rows):
                if told and index not in told:
                    self.assertIsNot(follows_from(kept, low, row, least[index]).__class__, Fails)
            for at in range(len(told)):
                others, others_low = kept[:at] + kept[at + 1:], low[:at] + low[at + 1:]
                if others:
                    shown = follows_from(others, others_low, kept[at], low[at])
                    self.assertIs(shown.__class__, Fails)
                    numbers_meet(self, others, others_low, shown.numbers)

    def test_64_rows(self):
        rows = tuple((ONE, (number, 1)) for number in range(64))
        self.assertEqual(needed_rows(rows, ((5, 1),) * 64), (0,))


class TestBarredLots(unittest.TestCase):
    def lots(self, rows, least, kept):
        """All least barred lots, by going through all lots."""
        rows, least = tell_rows(rows, least)
        found = []
        later = range(kept, len(rows))
        masks = sorted((tuple(k for k in later if mask >> (k - kept) & 1) for mask in range(1 << len(later))),
                       key=lambda lot: (len(lot), lot))
        for lot in masks:
            if any(set(inner) <= set(lot) for inner in found):
                continue
            chosen = list(range(kept)) + list(lot)
            if chosen and not can_be_met([rows[k] for k in chosen], [least[k] for k in chosen]):
                found.append(lot)
        return found

    def test_small_ones(self):
        self.assertEqual(list(barred_lots(BARRED_ROWS, BARRED_LEAST)), [(0, 2)])
        self.assertEqual(list(barred_lots(BARRED_ROWS, BARRED_LEAST, kept=1)), [(2,)])
        self.assertEqual(list(barred_lots(BARRED_ROWS, BARRED_LEAST, kept=2)), [(2,)])
        self.assertEqual(list(barred_lots(BARRED_ROWS, BARRED_LEAST, kept=3)), [()])
        self.assertEqual(list(barred_lots(ROWS, LEAST)), [])
        self.assertEqual(list(barred_lots(ROWS, LEAST, kept=2)), [])
        self.assertEqual(list(barred_lots(((ZERO,), (ZERO,), (ONE,)), (ONE, ONE, ONE))), [(0,), (1,)])
        self.assertEqual(list(barred_lots(((ZERO,), (ZERO,), (ONE,)), (ONE, ONE, ONE), kept=1)), [()])

    def test_drawn(self):
        draw = Draw(16)
        many = 0
        for _ in range(400):
            rows, least = drawn_task(draw, 7, 3)
            kept = draw.whole(0, len(rows)) if draw.chance(1, 2) else 0
            told = list(barred_lots(rows, least, kept=kept))
            self.assertEqual(told, self.lots(rows, least, kept))
            self.assertTrue(all(isinstance(lot, tuple) for lot in told))
            many += len(told) > 1
        self.assertTrue(many > 10, many)

    def test_8_rows_and_many_kept(self):
        rows = [row_of_wholes(*(int(k == place) for k in range(8))) for place in range(8)]
        together = [(row_of_wholes(*[-1] * 8))]
        told = list(barred_lots(together + rows, [(-5, 2)] + [ONE] * 8, kept=1))
        self.assertEqual(len(told), 56)
        self.assertTrue(all(len(lot) == 3 for lot in told))
        self.assertEqual(told, sorted(told))
        told = list(barred_lots([(ONE,)] * 56 + [((-1, 1),)] * 8, [ONE] * 56 + [ZERO] * 8, kept=56))
        self.assertEqual(told, [(index,) for index in range(56, 64)])

    def test_it_is_a_generator(self):
        self.assertTrue(inspect.isgeneratorfunction(barred_lots))

    def test_8_and_9_rows_that_are_not_kept(self):
        generated_fault(self, BadTask, {"what": "free"}, barred_lots, [(ONE,)] * 9, [ONE] * 9)
        generated_fault(self, BadTask, {"what": "free"}, barred_lots, [(ONE,)] * 64, [ONE] * 64, kept=55)
        self.assertEqual(list(barred_lots([(ONE,)] * 9, [ONE] * 9, kept=1)), [])
        for thing in NO_WHOLES + (-1, 10):
            generated_fault(self, BadTask, {"what": "kept"}, barred_lots, [(ONE,)] * 9, [ONE] * 9, kept=thing)


class TestFaults(unittest.TestCase):
    CALLS = ((find_from, ()), (least_cost, (None,)), (most_gain, (None,)), (follows_from, (None, None)),
             (needed_rows, ()), (lambda *args: list(barred_lots(*args, kept=None)), ()))

    def each(self, word, rows, least):
        for call, more in self.CALLS:
            fault(self, BadTask, {"what": word}, call, rows, least, *more)

    def test_many(self):
        for thing in NO_SEQUENCES + ((), [], [(ONE,)] * 65, [None] * 65):
            self.each("many", thing, None)

    def test_row(self):
        for thing in NO_SEQUENCES + ((), (ONE,) * 25):
            self.each("row", [thing], None)
            self.each("row", [(ONE,), thing], None)
        for thing in NO_RATIOS:
            self.each("row", [(ONE, thing)], None)
        self.each("row", [(ONE,), (ONE, ONE)], None)
        self.each("row", [(ONE, ONE), (ONE,)], None)

    def test_least(self):
        for thing in NO_SEQUENCES + ((), (ONE,) * 2, (ONE,) * 4):
            self.each("least", [(ONE,)] * 3, thing)
        for thing in NO_RATIOS:
            self.each("least", [(ONE,)] * 3, (ONE, thing, ONE))

    def test_costs_and_gains(self):
        for call in (least_cost, most_gain):
            for thing in NO_SEQUENCES + ((), (ONE,), (ONE,) * 3):
                fault(self, BadTask, {"what": "costs"}, call, ROWS, LEAST, thing)
            for thing in NO_RATIOS:
                fault(self, BadTask, {"what": "costs"}, call, ROWS, LEAST, (ONE, thing))

    def test_wanted_and_total(self):
        for thing in NO_SEQUENCES + ((), (ONE,), (ONE,) * 3):
            fault(self, BadTask, {"what": "wanted"}, follows_from, ROWS, LEAST, thing, None)
        for thing in NO_RATIOS:
            fault(self, BadTask, {"what": "wanted"}, follows_from, ROWS, LEAST, (ONE, thing), None)
            fault(self, BadTask, {"what": "total"}, follows_from, ROWS, LEAST, (ONE, ONE), thing)

    def test_64_and_65_rows_24_and_25_places(self):
        self.assertIs(find_from([(ONE,) * 24] * 64, [ONE] * 64).__class__, Found)
        fault(self, BadTask, {"what": "many"}, find_from, [(ONE,) * 24] * 65, [ONE] * 65)
        fault(self, BadTask, {"what": "row"}, find_from, [(ONE,) * 25] * 64, [ONE] * 64)


class TestResults(unittest.TestCase):
    SHAPES = ((Found, ("numbers",)), (Barred, ("weights",)), (Least, ("value", "numbers", "weights")),
              (Greatest, ("value", "numbers", "weights")), (Endless, ("numbers", "way")), (Follows, ("weights",)),
              (Fails, ("numbers",)))

    def test_they_keep_the_very_things(self):
        for kind, names in self.SHAPES:
            things = [[], None, "x"][:len(names)]
            told = kind(*things)
            for name, thing in zip(names, things):
                self.assertIs(getattr(told, name), thing)

    def test_equality(self):
        for kind, names in self.SHAPES:
            told = kind(*range(len(names)))
            self.assertTrue(told == kind(*range(len(names))))
            for at in range(len(names)):
                other = list(range(len(names)))
                other[at] = 9
                self.assertFalse(told == kind(*other))
                self.assertTrue(told != kind(*other))
            for another, others in self.SHAPES:
                if another is not kind:
                    self.assertFalse(told == another(*range(len(others))))

    def test_lists_stay_and_tuples_are_returned(self):
        rows, least, costs = [[ONE, ONE], [HALF, ZERO]], [ONE, ONE], [ONE, ONE]
        told = (find_from(rows, least), least_cost(rows, least, costs), most_gain(rows, least, costs),
                follows_from(rows, least, costs, ONE), needed_rows(rows, least), list(barred_lots(rows, least)))
        self.assertEqual((rows, least, costs), ([[ONE, ONE], [HALF, ZERO]], [ONE, ONE], [ONE, ONE]))
        for result in told[:4]:
            for thing in vars(result).values():
                self.assertIsInstance(thing, tuple)
        self.assertEqual(tasks.find_from(tuple(map(tuple, rows)), tuple(least)), told[0])


if __name__ == "__main__":
    unittest.main()
