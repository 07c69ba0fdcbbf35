"""Burdens: the least labour of a wish parted among its goods."""

from leastlabour.jointserve import joint_least, joint_made
from leastlabour.lots import all_lots
from leastlabour.ratios import ZERO, compare, is_row, sum_of, times
from leastlabour.wishes import check_wish, check_wished


def fair_burdens(works, wish):
    """Burdens of the goods of the wish: no lot bears more than its part of the wish costs."""
    wished = check_wish(works.goods, wish)
    check_wished(wished, joint_made(works))
    prices = joint_least(works, wished).prices
    return tuple([times(price, many) for price, many in zip(prices, wished)])


def burdens_fault(works, wish, burdens):
    """Judges burdens: None, a word, or ("lot", goods) with the first lot that bears too much."""
    wished = check_wish(works.goods, wish)
    check_wished(wished, joint_made(works))
    if not is_row(burdens, works.goods, ZERO):
        return "row"
    if sum_of(burdens) != joint_least(works, wished).labour:
        return "sum"
    for lot in all_lots(list(range(works.goods))):
        part = [many if good in lot else ZERO for good, many in enumerate(wished)]
        if compare(sum_of([burdens[good] for good in lot]), joint_least(works, part).labour) > 0:
            return ("lot", lot)
    return None
