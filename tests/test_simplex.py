"""The careful steps, which the table takes where steps may go in a ring."""

import unittest
from fractions import Fraction

from leastlabour.judges import barred_fault, endless_fault, least_fault
from leastlabour.ratios import ONE, ZERO, dot
from leastlabour.simplex import (Table, barring_weights, cost_weights, lower_costs, meet_lines, numbers_in, way_in)
from leastlabour.tasks import Barred, Endless, Least, least_cost
from tests.drawing import Draw, frac, fracs, summed
from tests.test_tasks import drawn_task


class Careful(Table):
    """A table that is careful from the first step on, and checks that the least numbers go first."""

    def __init__(self, rows, least, costs):
        Table.__init__(self, rows, least, costs)
        self.steps = 10 ** 6
        self.phase = "lines"

    def turn(self, at, by):
        if self.phase == "lines":
            low = [name for name, line in zip(self.beside, self.lines) if line[-1] < 0]
            assert self.beside[at] == min(low)
            shares = {name: (help_, entry) for name, help_, entry in zip(self.above, self.helps, self.lines[at])
                      if entry > 0}
        else:
            assert self.above[by] == min(name for name, cost in zip(self.above, self.costs) if cost < 0)
            shares = {name: (line[-1], -line[by]) for name, line in zip(self.beside, self.lines) if line[by] < 0}
        chosen = self.above[by] if self.phase == "lines" else self.beside[at]
        top, bottom = shares[chosen]
        for name, (other, below) in shares.items():
            assert top * below < other * bottom or (top * below == other * bottom and chosen <= name)
        Table.turn(self, at, by)


def careful_answer(rows, least, costs):
    table = Careful(rows, least, costs)
    barring = meet_lines(table)
    if barring is not None:
        return Barred(barring_weights(table, barring))
    table.phase = "costs"
    endless = lower_costs(table)
    numbers = numbers_in(table)
    if endless is not None:
        return Endless(numbers, way_in(table, endless))
    return Least(dot(costs, numbers), numbers, cost_weights(table))


class TestCareful(unittest.TestCase):
    def test_careful_steps_come_to_right_answers(self):
        draw = Draw(92)
        kinds = {Least: 0, Endless: 0, Barred: 0}
        for _ in range(600):
            rows, least = drawn_task(draw, 9, 7)
            if draw.chance(1, 2):
                least = [ZERO if draw.chance(2, 3) else low for low in least]
            costs = draw.row(len(rows[0]), draw.pick((-3, 0)), 3, 4)
            told = careful_answer(rows, least, costs)
            self.assertIs(told.__class__, least_cost(rows, least, costs).__class__)
            kinds[told.__class__] += 1
            if isinstance(told, Barred):
                self.assertIsNone(barred_fault(rows, least, told))
            elif isinstance(told, Endless):
                self.assertIsNone(endless_fault(rows, least, costs, told))
            else:
                self.assertIsNone(least_fault(rows, least, costs, told))
        self.assertTrue(min(kinds.values()) > 50, kinds)

    def test_a_table_is_careful_behind_many_steps_alone(self):
        table = Table([[ONE, ONE]], [ONE], [ONE, ONE])
        self.assertFalse(table.is_long())
        for _ in range(100):
            table.turn(0, 0)
        self.assertTrue(table.is_long())

    def test_a_table_stays_right_over_many_steps(self):
        draw = Draw(93)
        for _ in range(50):
            rows, least = drawn_task(draw, 6, 5)
            table = Table(rows, least, rows[0])
            for _ in range(30):
                at, by = draw.whole(0, len(rows) - 1), draw.whole(0, len(rows[0]) - 1)
                if table.lines[at][by] != 0:
                    table.turn(at, by)
            self.assertTrue(table.scale > 0)
            # At the numbers that the table tells, the rows come to what it tells of them.
            numbers = {name: Fraction(0) for name in table.above}
            for name, line in zip(table.beside, table.lines):
                numbers[name] = Fraction(line[-1], table.scale)
            places = [numbers[place] for place in range(len(rows[0]))]
            for index, (row, low) in enumerate(zip(rows, least)):
                left = summed(fracs(row), places) - frac(low)
                self.assertEqual(left * table.sizes[index], numbers[len(rows[0]) + index])


if __name__ == "__main__":
    unittest.main()
