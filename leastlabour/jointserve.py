"""Wishes served by joint recipes by the least labour."""

from leastlabour.joint import first_undercut, left_of, left_over
from leastlabour.ratios import ZERO, compare, dot, is_at_least, is_ratio, is_row
from leastlabour.tasks import Least, least_cost
from leastlabour.weights import are_weights, divisor_of, weigh
from leastlabour.wishes import check_wish, labour_of, piece_of


class JointServed:
    """The least labour of a wish, amounts that serve it by that, and let prices that show it."""

    def __init__(self, labour, amounts, prices):
        self.labour = labour
        self.amounts = amounts
        self.prices = prices

    def __eq__(self, other):
        return (isinstance(other, JointServed) and self.labour == other.labour and self.amounts == other.amounts
                and self.prices == other.prices)


class NotServed:
    """Weights that no recipe raises and that the wish has: no amounts serve it."""

    def __init__(self, weights):
        self.weights = weights

    def __eq__(self, other):
        return isinstance(other, NotServed) and self.weights == other.weights


def joint_least(works, wish):
    """The JointServed of the wish, or NotServed if no amounts serve it."""
    wished = check_wish(works.goods, wish)
    left = [left_of(recipe) for recipe in works.recipes]
    labours = [recipe.labour for recipe in works.recipes]
    # Without recipes one that does nothing stands in their place: a task has at least one place.
    if not left:
        left, labours = [(ZERO,) * works.goods], [ZERO]
    told = least_cost([[row[good] for row in left] for good in range(works.goods)], wished, labours)
    if isinstance(told, Least):
        return JointServed(told.value, told.numbers[:len(works)], told.weights)
    return NotServed(told.weights)


def joint_made(works):
    """The ascending goods of which one piece alone can be served."""
    return tuple([good for good in range(works.goods)
                  if isinstance(joint_least(works, piece_of(works.goods, good)), JointServed)])


def joint_served_fault(works, wish, served):
    """Judges a JointServed."""
    wished = check_wish(works.goods, wish)
    if not isinstance(served.amounts, tuple) or not is_row(served.amounts, len(works), ZERO):
        return "amounts"
    if not is_at_least(left_over(works, served.amounts), wished):
        return "short"
    if not is_ratio(served.labour) or served.labour != labour_of(works, served.amounts):
        return "labour"
    if not isinstance(served.prices, tuple) or not is_row(served.prices, works.goods, ZERO):
        return "prices"
    if first_undercut(works, served.prices) is not None:
        return "undercut"
    if dot(served.prices, wished) != served.labour:
        return "worth"
    return None


def not_served_fault(works, wish, told):
    """Judges a NotServed."""
    wished = check_wish(works.goods, wish)
    if not isinstance(told.weights, tuple) or not are_weights(told.weights, works.goods):
        return "weights"
    if divisor_of(told.weights) != 1:
        return "divisor"
    if any([compare(weigh(told.weights, left_of(recipe)), ZERO) > 0 for recipe in works.recipes]):
        return "recipe"
    if weigh(told.weights, wished) == ZERO:
        return "wish"
    return None
