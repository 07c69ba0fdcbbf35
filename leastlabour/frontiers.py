"""With how much of the one and of the other labour a wish can be served."""

from leastlabour.errors import BadOffer
from leastlabour.making import can_be_made, making_recipes
from leastlabour.ownrows import amounts_by
from leastlabour.prices import gap_by, price_fault, priced
from leastlabour.ratios import (ONE, ZERO, compare, dot, is_ratio, is_ratio_from, is_sequence, minus, over, plus_rows,
                                times_row)
from leastlabour.shares import rows_at_ends, share_list
from leastlabour.twoworks import is_share, labours_at, mixed, needs_by
from leastlabour.wishes import check_wish, check_wished, serves


class TwoServed:
    """Amounts that serve a wish, and the two labours that they take."""

    def __init__(self, amounts, first, second):
        self.amounts = amounts
        self.first = first
        self.second = second

    def __eq__(self, other):
        return (isinstance(other, TwoServed) and self.amounts == other.amounts and self.first == other.first
                and self.second == other.second)


class TooLittle:
    """A share and a row let there at which the wish is worth more than the offer."""

    def __init__(self, share, prices):
        self.share = share
        self.prices = prices

    def __eq__(self, other):
        return isinstance(other, TooLittle) and self.share == other.share and self.prices == other.prices


def _check_offers(two, wish, offers):
    """The wish as a tuple, if it is right, each told labour is an offer, and all that is wished can be made."""
    wished = check_wish(two.goods, wish)
    for word, labour in offers:
        if not is_ratio_from(labour, ZERO):
            raise BadOffer(word)
    check_wished(wished, can_be_made(two))
    return wished


def _corners(two, stretches, wish):
    """The corners of the frontier as couples (first, second), and for each the manner that needs these."""
    corners, manners = [], []
    for stretch in stretches:
        firsts, seconds = needs_by(two, stretch.manner)
        corner = (priced(wish, firsts), priced(wish, seconds))
        if not corners or corner != corners[-1]:
            corners.append(corner)
            manners.append(stretch.manner)
    return corners, manners


def frontier_of(two, wish):
    """The corners of the frontier of the wish, the least first labour first."""
    wished = _check_offers(two, wish, ())
    return tuple(_corners(two, share_list(two), wished)[0])


def _place_on(corners, labour):
    """The last corner that takes at most this much of the one labour, and how far to the next one it goes."""
    for index in range(len(corners) - 1):
        near, far = corners[index][0], corners[index + 1][0]
        if compare(labour, far) < 0:
            return index, over(minus(labour, near), minus(far, near))
    return len(corners) - 1, ZERO


def _least_beside(corners, labour):
    """The least other labour beside at most this much of the one, or None if it is less than any corner takes."""
    if compare(labour, corners[0][0]) < 0:
        return None
    index, part = _place_on(corners, labour)
    far = corners[index + 1] if part != ZERO else corners[index]
    return mixed(corners[index][1], far[1], part)


def least_second(two, wish, first):
    """The least second labour that serves the wish beside at most this first one, or None."""
    wished = _check_offers(two, wish, (("first", first),))
    return _least_beside(_corners(two, share_list(two), wished)[0], first)


def least_first(two, wish, second):
    """The least first labour that serves the wish beside at most this second one, or None."""
    wished = _check_offers(two, wish, (("second", second),))
    corners = _corners(two, share_list(two), wished)[0]
    return _least_beside([(low, high) for high, low in reversed(corners)], second)


def _served_by(two, amounts):
    """The TwoServed of right amounts."""
    return TwoServed(amounts, dot(amounts, labours_at(two, ZERO)), dot(amounts, labours_at(two, ONE)))


def _amounts_with(two, stretches, wish, first):
    """Amounts that serve the wish by the least second labour beside at most this first one, which is enough."""
    corners, manners = _corners(two, stretches, wish)
    index, part = _place_on(corners, first)
    amounts = amounts_by(two, manners[index], wish)
    if part == ZERO:
        return amounts
    others = amounts_by(two, manners[index + 1], wish)
    return plus_rows(times_row(amounts, minus(ONE, part)), times_row(others, part))


def can_serve(two, wish, first, second):
    """TwoServed if amounts serve the wish by at most these two labours, else TooLittle."""
    wished = _check_offers(two, wish, (("first", first), ("second", second)))
    stretches = share_list(two)
    for share, prices in rows_at_ends(two, stretches):
        if compare(priced(wished, prices), mixed(first, second, share)) > 0:
            return TooLittle(share, prices)
    return _served_by(two, _amounts_with(two, stretches, wished, first))


def _is_within(told, taken, offer):
    """Whether the told labour is the one that is taken, and no more than the offer."""
    return is_ratio(told) and told == taken and compare(told, offer) <= 0


def two_served_fault(two, wish, first, second, told):
    """Judges a TwoServed with any amounts."""
    wished = _check_offers(two, wish, (("first", first), ("second", second)))
    if not is_sequence(told.amounts) or len(told.amounts) != len(two):
        return "many"
    if not all([is_ratio_from(amount, ZERO) for amount in told.amounts]):
        return "amount"
    if not serves(two, told.amounts, wished):
        return "short"
    taken = _served_by(two, told.amounts)
    if not _is_within(told.first, taken.first, first):
        return "first"
    if not _is_within(told.second, taken.second, second):
        return "second"
    return None


def _are_prices(two, prices):
    """Whether this is a row from 0 on, None exactly at the goods that cannot be made."""
    if price_fault(two, prices, can_be_made(two)) is not None:
        return False
    return all([price is None or compare(price, ZERO) >= 0 for price in prices])


def too_little_fault(two, wish, first, second, told):
    """Judges a TooLittle with any share and any row that show it."""
    wished = _check_offers(two, wish, (("first", first), ("second", second)))
    if not is_share(told.share):
        return "share"
    if not _are_prices(two, told.prices):
        return "prices"
    labours = labours_at(two, told.share)
    making = making_recipes(two)
    if any([compare(gap_by(two.recipes[k], labours[k], told.prices), ZERO) < 0 for k in making]):
        return "undercut"
    if compare(priced(wished, told.prices), mixed(first, second, told.share)) <= 0:
        return "paid"
    return None
