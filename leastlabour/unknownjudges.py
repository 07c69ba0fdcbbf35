"""Judges of the answers about unknown labours: None for a right one, else the first word that applies."""

from leastlabour.bounds import Bound, amounts_for, needs_of, ratio_tasks, regret_tasks
from leastlabour.claims import Both, Never, Sure, check_claim, claim_tasks, true_at
from leastlabour.errors import BadLabours
from leastlabour.facts import check_facts, check_labours, first_broken
from leastlabour.judges import barred_fault
from leastlabour.parts import parts_by
from leastlabour.ratios import (ZERO, compare, dot, is_at_least, is_ratio, is_row, is_sequence, least_of, negative,
                                times)
from leastlabour.tasks import Barred
from leastlabour.unknown import check_kept
from leastlabour.wishes import check_wish, pieces_of


def _papers_fault(tasks, papers):
    """The word "papers" or "weights", or None if each of the papers bars its task."""
    if not is_sequence(papers) or len(papers) != len(tasks):
        return "papers"
    for (rows, least), weights in zip(tasks, papers):
        if barred_fault(rows, least, Barred(weights)) is not None:
            return "weights"
    return None


def _shows(works, facts, claim, labours, holds):
    """Whether these are labours that keep the facts and make the claim true, or not true."""
    try:
        told = check_labours(works, labours)
    except BadLabours:
        return False
    return first_broken(facts, told) is None and true_at(works, told, claim) == holds


def decided_fault(works, facts, claim, told):
    """Judges a Sure, a Never or a Both."""
    kept = check_facts(works, facts)
    check_claim(works, claim)
    check_kept(works, kept)
    if isinstance(told, Sure):
        return _papers_fault(claim_tasks(works, kept, claim, False), told.papers)
    if isinstance(told, Never):
        return _papers_fault(claim_tasks(works, kept, claim, True), told.papers)
    if not isinstance(told, Both):
        return "answer"
    if not _shows(works, kept, claim, told.yes, True):
        return "yes"
    if not _shows(works, kept, claim, told.no, False):
        return "no"
    return None


def _shows_bound(rows, least, costs, weights, most):
    """Whether these weights show that the task's numbers never bring the costs below the bound, times -1."""
    if not is_row(weights, len(rows), ZERO):
        return False
    added = [dot(weights, [row[place] for row in rows]) for place in range(len(costs))]
    return is_at_least(costs, added) and compare(negative(dot(weights, least)), most) <= 0


def _is_reached(most, one, other):
    """Whether the first number is `most` times the second, or above 0 beside 0 if there is no bound."""
    if most is None:
        return compare(one, ZERO) > 0 and other == ZERO
    return compare(other, ZERO) > 0 and one == times(most, other)


def _bound_fault(works, facts, tasks, own, needs, told):
    """The first word for a Bound of amounts beside the least of others: a tuple of lots of amounts for each."""
    if not isinstance(told, Bound):
        return "bound"
    if told.most is not None and not is_ratio(told.most):
        return "most"
    if not is_row(told.labours, len(works), ZERO) or first_broken(facts, told.labours) is not None:
        return "labours"
    one = least_of([dot(amounts, told.labours) for amounts in own])
    other = least_of([dot(amounts, told.labours) for amounts in needs])
    if not _is_reached(told.most, one, other):
        return "reached"
    asked = () if told.most is None else tasks
    if not is_sequence(told.papers) or len(told.papers) != len(asked):
        return "papers"
    for (rows, least, costs), weights in zip(asked, told.papers):
        if not _shows_bound(rows, least, costs, weights, told.most):
            return "weights"
    return None


def _piece_needs(works, good):
    """The amounts that each able manner takes for a piece of the good."""
    return [amounts for _, amounts in needs_of(works, pieces_of(works.goods, (good,)))]


def ratio_fault(works, facts, good, other, told):
    """Judges a Bound of `greatest_ratio`."""
    tasks = ratio_tasks(works, facts, good, other)
    kept = check_facts(works, facts)
    check_kept(works, kept)
    return _bound_fault(works, kept, tasks, _piece_needs(works, good), _piece_needs(works, other), told)


def regret_fault(works, facts, manner, wish, told):
    """Judges a Bound of `regret`."""
    tasks = regret_tasks(works, facts, manner, wish)
    kept = check_facts(works, facts)
    check_kept(works, kept)
    wished = check_wish(works.goods, wish)
    own = [amounts_for(works, parts_by(works, manner), wished)]
    return _bound_fault(works, kept, tasks, own, [amounts for _, amounts in needs_of(works, wished)], told)
