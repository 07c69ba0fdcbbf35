"""Which manners are best at some labours that keep the facts."""

from leastlabour.errors import NoLabours
from leastlabour.facts import check_facts, labours_keeping
from leastlabour.making import making_recipes
from leastlabour.ownrows import check_able
from leastlabour.parts import able_manners, parts_by
from leastlabour.ratios import ONE, ZERO, minus, negative, plus, plus_rows, sum_of, times_row
from leastlabour.tasks import Found, find_from


class NeverBest:
    """Weights that bar the task of a manner: it is best at no labours that keep the facts."""

    def __init__(self, weights):
        self.weights = weights

    def __eq__(self, other):
        return isinstance(other, NeverBest) and self.weights == other.weights


def check_kept(works, facts):
    """Raises NoLabours if no labours keep these right facts."""
    if labours_keeping(len(works), facts) is None:
        raise NoLabours()


def unit_row(places, at):
    """The row of ONE at one place and ZERO at all others."""
    return tuple([ONE if place == at else ZERO for place in range(places)])


def fact_rows(facts, places):
    """For each fact the row that is at least 0 at labours that keep it."""
    rows = []
    for greater, size, lesser in facts:
        taken = times_row(unit_row(places, lesser), negative(size))
        rows.append(plus_rows(unit_row(places, greater), taken))
    return rows


def task_of(works, facts, told, places):
    """The task of the facts and of the told rows, couples of a row and what labours have to give it at least."""
    rows = [(ZERO,) * places] + fact_rows(facts, places) + [row for row, _ in told]
    totals = [ZERO] * (1 + len(facts)) + [total for _, total in told]
    # The numbers of a task are from 0 on: labours are these and 1 more. Facts and claims speak of proportions alone.
    least = [minus(total, sum_of(row[:len(works)])) for row, total in zip(rows, totals)]
    return tuple(rows), tuple(least)


def gap_row(works, parts, number):
    """The row that gives, at labours, the gap of a making recipe beside the manner of these parts."""
    recipe = works.recipes[number]
    row = plus_rows(unit_row(len(works), number), times_row(parts[recipe.good], (-1, 1)))
    for eaten, part in zip(recipe.eats, parts):
        if eaten != ZERO:
            row = plus_rows(row, times_row(part, eaten))
    return row


def gap_rows(works, manner):
    """The number and the gap row of each making recipe outside an able manner, ascending."""
    parts = parts_by(works, manner)
    return [(number, gap_row(works, parts, number)) for number in making_recipes(works) if number not in manner]


def task_to_be_best(works, facts, manner):
    """The task of an able manner and right facts."""
    told = [(row, ZERO) for _, row in gap_rows(works, manner)]
    return task_of(works, facts, told, len(works))


def best_task(works, facts, manner):
    """The task that labours 1 + x meet if they keep the facts and the manner is best at them."""
    told = check_facts(works, facts)
    return task_to_be_best(works, told, check_able(works, manner))


def labours_from(works, numbers):
    """The labours that the numbers of a task tell."""
    return tuple([plus(ONE, number) for number in numbers[:len(works)]])


def _answer(works, facts, manner):
    """Labours at which an able manner is best, or NeverBest, for facts that some labours keep."""
    # Without recipes there is no place for a task, and no labour to be told.
    if len(works) == 0:
        return ()
    rows, least = task_to_be_best(works, facts, manner)
    told = find_from(rows, least)
    return labours_from(works, told.numbers) if isinstance(told, Found) else NeverBest(told.weights)


def ever_best(works, facts, manner):
    """Labours that keep the facts and at which the manner is best, or NeverBest."""
    told = check_facts(works, facts)
    able = check_able(works, manner)
    check_kept(works, told)
    return _answer(works, told, able)


def best_ever(works, facts):
    """Yields the able manners that are best at some labours that keep the facts, in order."""
    told = check_facts(works, facts)
    check_kept(works, told)
    for manner in able_manners(works):
        if not isinstance(_answer(works, told, manner), NeverBest):
            yield manner
