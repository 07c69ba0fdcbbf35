"""Which wishes cost less labour together than apart."""

from leastlabour.jointserve import joint_least, joint_made
from leastlabour.lots import all_lots
from leastlabour.pricerows import check_all_made, price_rows
from leastlabour.ratios import compare, minus, plus, plus_rows
from leastlabour.wishes import check_wish, check_wished, others_of, piece_of, pieces_of


class AddsUp:
    """The separate prices by which the least labours of all wishes add up."""

    def __init__(self, prices):
        self.prices = prices

    def __eq__(self, other):
        return isinstance(other, AddsUp) and self.prices == other.prices


class Apart:
    """Two wishes that cost less together than apart."""

    def __init__(self, one, other, together, apart):
        self.one = one
        self.other = other
        self.together = together
        self.apart = apart

    def __eq__(self, other):
        return (isinstance(other, Apart) and self.one == other.one and self.other == other.other
                and self.together == other.together and self.apart == other.apart)


def _labour(works, wish):
    """The least labour of a right wish that can be served."""
    return joint_least(works, wish).labour


def _separate(works):
    """The least labours of one piece of each good alone, where all goods can be made."""
    return tuple([_labour(works, piece_of(works.goods, good)) for good in range(works.goods)])


def separate_prices(works):
    """The row of the least labours of one piece of each good alone."""
    check_all_made(works)
    return _separate(works)


def adds_up(works):
    """AddsUp if the least labour of any two wishes together is the sum of theirs, else Apart."""
    prices = separate_prices(works)
    for good in range(1, works.goods):
        before = tuple(range(good))
        one, other = pieces_of(works.goods, before), piece_of(works.goods, good)
        together = _labour(works, plus_rows(one, other))
        apart = plus(_labour(works, one), prices[good])
        if compare(together, apart) < 0:
            return Apart(one, other, together, apart)
    return AddsUp(prices)


def together_pairs(works):
    """All couples of goods, ascending, of which one piece each cost less together than apart."""
    prices = separate_prices(works)
    pairs = []
    for one in range(works.goods):
        for other in range(one + 1, works.goods):
            together = _labour(works, pieces_of(works.goods, (one, other)))
            if compare(together, plus(prices[one], prices[other])) < 0:
                pairs.append((one, other))
    return tuple(pairs)


def _many_parts(rows, lot):
    """How many unlike parts in the lot the rows have."""
    parts = {}
    for row in rows:
        parts[tuple([row[good] for good in lot])] = True
    return len(parts)


def _parting_lots(goods, rows):
    """The lots such that each row's part in the lot stands beside each row's part in the other goods."""
    lots = []
    for lot in all_lots(list(range(goods))):
        if _many_parts(rows, lot) * _many_parts(rows, others_of(goods, lot)) == len(rows):
            lots.append(lot)
    return lots


def apart_groups(works):
    """The finest parting of all goods into groups whose least labours add up for all wishes."""
    rows = [row.prices for row in price_rows(works)]
    lots = _parting_lots(works.goods, rows)
    groups = []
    for good in range(works.goods):
        around = [lot for lot in lots if good in lot]
        group = tuple([other for other in range(works.goods) if all([other in held for held in around])])
        if group not in groups:
            groups.append(group)
    return tuple(groups)


def gain_of(works, one, other):
    """How much less labour two wishes cost together than apart."""
    first, second = check_wish(works.goods, one), check_wish(works.goods, other)
    made = joint_made(works)
    check_wished(first, made)
    check_wished(second, made)
    apart = plus(_labour(works, first), _labour(works, second))
    return minus(apart, _labour(works, plus_rows(first, second)))
