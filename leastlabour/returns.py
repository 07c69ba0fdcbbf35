"""The best manners at all rates from one to another, and manners that come back."""

from leastlabour.errors import BadManner, BadSpan
from leastlabour.making import making_recipes
from leastlabour.manners import best_manner
from leastlabour.ownrows import check_whole, put_in
from leastlabour.prices import gap_by, tight_recipes
from leastlabour.rates import at_rate, does_run, row_at_rate
from leastlabour.ratios import ZERO, compare, is_row, times
from leastlabour.roots import check_width, is_wider, middle_of, sign_behind
from leastlabour.switches import check_rates, none_undercuts, switches_of

MOST_PIECES = 64


class RateStretch:
    """Rates at which one manner is best, at which the works do not run, or at which another manner takes over."""

    def __init__(self, low, high, word, manner):
        self.low = low
        self.high = high
        self.word = word
        self.manner = manner

    def __eq__(self, other):
        return (isinstance(other, RateStretch) and self.low == other.low and self.high == other.high
                and self.word == other.word and self.manner == other.manner)


class Returned:
    """A manner that is best at the first and at the last rate, and not at the one between."""

    def __init__(self, manner, first, between, last):
        self.manner = manner
        self.first = first
        self.between = between
        self.last = last

    def __eq__(self, other):
        return (isinstance(other, Returned) and self.manner == other.manner and self.first == other.first
                and self.between == other.between and self.last == other.last)


def _check_span(low, high, width):
    """Raises BadSpan unless these are two rates and a width that is not too small for them."""
    check_rates(low, high)
    check_width(width)
    if is_wider(low, high, times(width, (MOST_PIECES, 1))):
        raise BadSpan("width")


def _known_switches(works, manner, known):
    """The switches of the manner, kept in `known` for the next time."""
    if manner not in known:
        known[manner] = switches_of(works, manner)
    return known[manner]


def _best_behind(works, rate, known):
    """The least of the manners that are best close behind a rate at which the works run."""
    manner = best_manner(at_rate(works, rate))
    while True:
        switches = _known_switches(works, manner, known)
        below = [number for number, switch in switches if sign_behind(switch, rate) < 0]
        if not below:
            return put_in(works, manner, [number for number, switch in switches if switch == ()])
        manner = put_in(works, manner, below)


def _piece_of(works, low, high, width, known):
    """The stretch of a piece, or None if it has to be halved."""
    if not does_run(works, low):
        return RateStretch(low, high, "stopped", None)
    # Manners that are best close behind the low end have equal prices up to the end of the piece.
    manner = _best_behind(works, low, known)
    runs = row_at_rate(works, manner, high) is not None
    if runs and none_undercuts(_known_switches(works, manner, known), low, high):
        return RateStretch(low, high, "best", manner)
    return None if is_wider(low, high, width) else RateStretch(low, high, "cut", None)


def _joined(stretches):
    """The stretches, neighbours that are best with one manner or both stopped become one."""
    joined = []
    for stretch in stretches:
        last = joined[-1] if joined else stretch
        if joined and stretch.word != "cut" and (last.word, last.manner) == (stretch.word, stretch.manner):
            joined[-1] = RateStretch(last.low, stretch.high, stretch.word, stretch.manner)
        else:
            joined.append(stretch)
    return tuple(joined)


def rate_list(works, low, high, width):
    """The joined stretches that cover the rates from low to high, ascending."""
    _check_span(low, high, width)
    known, stretches, waiting = {}, [], [(low, high)]
    while waiting:
        left, right = waiting.pop()
        stretch = _piece_of(works, left, right, width, known)
        if stretch is None:
            middle = middle_of(left, right)
            waiting.append((middle, right))
            waiting.append((left, middle))
        else:
            stretches.append(stretch)
    return _joined(stretches)


def _tight_at(works, rate):
    """For each good the recipes that best manners have at a rate, or None if the works do not run there."""
    return tight_recipes(at_rate(works, rate)) if does_run(works, rate) else None


def _in_both(first, last):
    """For each good the recipes that are tight at two rates, or None if a good that can be made has none."""
    both = [[number for number in numbers if number in others] for numbers, others in zip(first, last)]
    return None if any([numbers and not common for numbers, common in zip(first, both)]) else both


def _leaving(both, between):
    """A manner of these recipes that has one that is not among those between, or None."""
    for good, numbers in enumerate(both):
        for number in numbers:
            if number not in between[good]:
                manner = [row[0] if row else None for row in both]
                manner[good] = number
                return tuple(manner)
    return None


def _returned_at(ends, first, last):
    """A Returned with the first and the last of the ends that have these places, or None."""
    both = _in_both(ends[first][1], ends[last][1])
    if both is not None:
        for rate, tight in ends[first + 1:last]:
            manner = _leaving(both, tight)
            if manner is not None:
                return Returned(manner, ends[first][0], rate, ends[last][0])
    return None


def find_return(works, low, high, width):
    """A manner with three ends of stretches at the first and last of which it is best, and not between; or None."""
    stretches = rate_list(works, low, high, width)
    ends = []
    for rate in [low] + [stretch.high for stretch in stretches]:
        tight = _tight_at(works, rate)
        if tight is not None:
            ends.append((rate, tight))
    for last in range(len(ends)):
        for first in range(last):
            returned = _returned_at(ends, first, last)
            if returned is not None:
                return returned
    return None


def _is_best_at(works, manner, rate):
    """Whether a manner of the works is best at the rate."""
    prices = row_at_rate(works, manner, rate)
    if prices is None:
        return False
    wasting = at_rate(works, rate)
    recipes = [wasting.recipes[number] for number in making_recipes(works)]
    return all([compare(gap_by(recipe, recipe.labour, prices), ZERO) >= 0 for recipe in recipes])


def _are_three_rates(rates):
    """Whether these are three rates, ascending, none twice."""
    return is_row(rates, 3, ZERO) and all([compare(low, high) < 0 for low, high in zip(rates, rates[1:])])


def return_fault(works, returned):
    """Judges a Returned with any rates."""
    try:
        manner = check_whole(works, returned.manner)
    except BadManner:
        return "manner"
    if not _are_three_rates((returned.first, returned.between, returned.last)):
        return "rates"
    if not _is_best_at(works, manner, returned.first):
        return "first"
    if _is_best_at(works, manner, returned.between):
        return "between"
    return None if _is_best_at(works, manner, returned.last) else "last"
