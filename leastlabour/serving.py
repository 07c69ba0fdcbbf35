"""Wishes served by the least labour."""

from leastlabour.errors import BadLabour
from leastlabour.making import can_be_made
from leastlabour.manners import best_manner
from leastlabour.ownrows import manner_amounts
from leastlabour.prices import greatest_prices, is_let, price_fault, worth_of
from leastlabour.ratios import ZERO, is_ratio, is_ratio_from, is_row, over
from leastlabour.wishes import check_wish, labour_of, serves


class Served:
    """The least labour of a wish, amounts that serve it by that, and prices that show it."""

    def __init__(self, labour, amounts, prices):
        self.labour = labour
        self.amounts = amounts
        self.prices = prices

    def __eq__(self, other):
        return (isinstance(other, Served) and self.labour == other.labour and self.amounts == other.amounts
                and self.prices == other.prices)


def least_labour(works, wish):
    """The least labour of amounts that serve the wish."""
    return worth_of(works, greatest_prices(works), wish)


def serve(works, wish):
    """The Served of the wish by the best manner."""
    prices = greatest_prices(works)
    labour = worth_of(works, prices, wish)
    return Served(labour, manner_amounts(works, best_manner(works), wish), prices)


def served_fault(works, wish, served):
    """Judges a Served with any amounts and any prices."""
    wished = check_wish(works.goods, wish)
    if not is_row(served.amounts, len(works), ZERO):
        return "amounts"
    if not serves(works, served.amounts, wished):
        return "short"
    if not is_ratio(served.labour) or served.labour != labour_of(works, served.amounts):
        return "labour"
    if price_fault(works, served.prices, can_be_made(works)) is not None:
        return "prices"
    if not is_let(works, served.prices):
        return "undercut"
    if worth_of(works, served.prices, wished) != served.labour:
        return "worth"
    return None


def most_times(works, wish, labour):
    """The greatest number of times that the wish can be served with this labour, None for a wish of 0."""
    wished = check_wish(works.goods, wish)
    if not is_ratio_from(labour, ZERO):
        raise BadLabour()
    needed = least_labour(works, wished)
    return None if needed == ZERO else over(labour, needed)
