"""How far two prices can be apart, and a manner from the best one, at all labours that keep the facts."""

from leastlabour.claims import let_rows
from leastlabour.errors import BadWish
from leastlabour.facts import check_facts
from leastlabour.making import can_be_made
from leastlabour.ownrows import check_able
from leastlabour.parts import able_manners, parts_by
from leastlabour.ratios import ONE, ZERO, is_lesser, least_of, negative, over, plus_rows, times_row
from leastlabour.tasks import Endless, least_cost
from leastlabour.unknown import check_kept, fact_rows, unit_row
from leastlabour.wishes import check_good, check_wish, check_wished, pieces_of


class Bound:
    """What a quotient never passes, labours from 0 on that reach it, and weights that show it."""

    def __init__(self, most, labours, papers):
        self.most = most
        self.labours = labours
        self.papers = papers

    def __eq__(self, other):
        return (isinstance(other, Bound) and self.most == other.most and self.labours == other.labours
                and self.papers == other.papers)


def _check_goods(works, good, other):
    """Raises an error unless both are goods that can be made."""
    check_good(works.goods, good)
    check_good(works.goods, other)
    made = can_be_made(works)
    check_wished(pieces_of(works.goods, (good,)), made)
    check_wished(pieces_of(works.goods, (other,)), made)


def _check_pieces(works, wish):
    """The wish as a tuple, if it asks for something and all that it asks for can be made."""
    wished = check_wish(works.goods, wish)
    if wished == (ZERO,) * works.goods:
        raise BadWish()
    check_wished(wished, can_be_made(works))
    return wished


def amounts_for(works, parts, wish):
    """The amounts that a manner of these parts takes for a wish of goods that can be made."""
    total = (ZERO,) * len(works)
    for many, part in zip(wish, parts):
        if many != ZERO:
            total = plus_rows(total, times_row(part, many))
    return total


def _capped(rows, cap, costs):
    """The task of rows that are at least 0 and of a last one that is at most 1."""
    least = (ZERO,) * len(rows) + ((-1, 1),)
    return tuple(rows) + (times_row(cap, (-1, 1)),), least, costs


def _ratio_tasks(works, facts, good, other):
    """The answer of ratio_tasks for right arguments."""
    places = len(works) + works.goods
    rows = fact_rows(facts, places) + let_rows(works)
    costs = times_row(unit_row(places, len(works) + good), (-1, 1))
    return tuple([_capped(rows, parts_by(works, manner)[other] + (ZERO,) * works.goods, costs)
                  for manner in able_manners(works)])


def ratio_tasks(works, facts, good, other):
    """For each able manner the task of the greatest price of a good beside a piece of the other good by the manner."""
    told = check_facts(works, facts)
    _check_goods(works, good, other)
    return _ratio_tasks(works, told, good, other)


def _bound_of(works, tasks):
    """The Bound that the answers of these tasks tell."""
    answers = [least_cost(rows, least, costs) for rows, least, costs in tasks]
    for answer in answers:
        if isinstance(answer, Endless):
            return Bound(None, tuple([(step, 1) for step in answer.way[:len(works)]]), ())
    value = least_of([answer.value for answer in answers])
    reaching = [answer.numbers for answer in answers if answer.value == value][0]
    return Bound(negative(value), reaching[:len(works)], tuple([answer.weights for answer in answers]))


def greatest_ratio(works, facts, good, other):
    """The Bound of the greatest price of the good divided by that of the other."""
    tasks = ratio_tasks(works, facts, good, other)
    check_kept(works, check_facts(works, facts))
    return _bound_of(works, tasks)


def price_range(works, facts, good, other):
    """The bounds between which the price of the good divided by that of the other lies; None: there is no high one."""
    high = greatest_ratio(works, facts, good, other).most
    most = greatest_ratio(works, facts, other, good).most
    return (ZERO if most is None else over(ONE, most), high)


def needs_of(works, wish):
    """Each able manner, in order, with the amounts that it takes for the wish."""
    return [(manner, amounts_for(works, parts_by(works, manner), wish)) for manner in able_manners(works)]


def _regret_tasks(works, facts, own, needs):
    """The answer of regret_tasks for the amounts of the manner and those of all able manners."""
    rows = fact_rows(facts, len(works))
    costs = times_row(own, (-1, 1))
    return tuple([_capped(rows, amounts, costs) for _, amounts in needs])


def regret_tasks(works, facts, manner, wish):
    """For each able manner the task of the labour by `manner` beside a wish that costs at most 1 by the able one."""
    told = check_facts(works, facts)
    able = check_able(works, manner)
    wished = _check_pieces(works, wish)
    return _regret_tasks(works, told, amounts_for(works, parts_by(works, able), wished), needs_of(works, wished))


def regret(works, facts, manner, wish):
    """The Bound of the labour of the wish by this manner divided by its least labour."""
    tasks = regret_tasks(works, facts, manner, wish)
    check_kept(works, check_facts(works, facts))
    return _bound_of(works, tasks)


def safest_manner(works, facts, wish):
    """The first able manner with the least bound of its regret, and that bound."""
    told = check_facts(works, facts)
    wished = _check_pieces(works, wish)
    check_kept(works, told)
    needs = needs_of(works, wished)
    found = None
    for manner, own in needs:
        most = _bound_of(works, _regret_tasks(works, told, own, needs)).most
        if found is None or is_lesser(most, found[1]):
            found = (manner, most)
    return found
