"""One list of manners that serves all wishes at all shares of two labours."""

from leastlabour.errors import BadManner, BadShare, CannotMake
from leastlabour.making import making_recipes
from leastlabour.manners import best_manner
from leastlabour.ownrows import check_able, put_in, row_by
from leastlabour.prices import gap_by, greatest_prices
from leastlabour.ratios import ONE, ZERO, compare, is_sequence, least_of, minus, over
from leastlabour.twoworks import at_share, is_share, labours_at, mixed, needs_by


class Stretch:
    """The manner that is best at all shares from low to high."""

    def __init__(self, low, high, manner):
        self.low = low
        self.high = high
        self.manner = manner

    def __eq__(self, other):
        return (isinstance(other, Stretch) and self.low == other.low and self.high == other.high
                and self.manner == other.manner)


def _gaps_beside(two, making, manner):
    """For each making recipe its number and its gaps at share 0 and at share 1 beside the manner's own rows.

    In between the gap goes straight from the one to the other.
    """
    firsts, seconds = needs_by(two, manner)
    gaps = []
    for number in making:
        recipe = two.recipes[number]
        gaps.append((number, gap_by(recipe, recipe.first, firsts), gap_by(recipe, recipe.second, seconds)))
    return gaps


def _is_below_behind(first, second, share):
    """Whether a gap that goes from first to second is below 0 just behind the share."""
    sign = compare(mixed(first, second, share), ZERO)
    return sign < 0 or (sign == 0 and compare(second, first) < 0)


def _best_behind(two, making, manner, share):
    """The best manner with the least numbers just behind the share, got from one that can make, and its gaps."""
    while True:
        gaps = _gaps_beside(two, making, manner)
        below = [number for number, first, second in gaps if _is_below_behind(first, second, share)]
        if not below:
            tight = [number for number, first, second in gaps if first == ZERO and second == ZERO]
            return put_in(two, manner, tight), gaps
        manner = put_in(two, manner, below)


def _end_of(gaps):
    """The share up to which no gap falls below 0, for gaps that are from 0 on before it."""
    ends = [over(first, minus(first, second)) for _, first, second in gaps if compare(second, ZERO) < 0]
    return least_of(ends + [ONE])


def share_list(two):
    """The one list of stretches from share 0 to share 1 with the best manner on each."""
    making = making_recipes(two)
    manner = best_manner(at_share(two, (1, 2)))
    stretches = []
    low = ZERO
    while low != ONE:
        manner, gaps = _best_behind(two, making, manner, low)
        high = _end_of(gaps)
        stretches.append(Stretch(low, high, manner))
        low = high
    return tuple(stretches)


def cuts_of(two):
    """The shares at which two stretches meet, ascending."""
    return tuple([stretch.low for stretch in share_list(two)[1:]])


def row_at(two, manner, share):
    """The manner's own row at a share from 0 to 1."""
    return row_by(two, manner, labours_at(two, share))


def rows_at_ends(two, stretches):
    """The shares 0, all cuts and 1, each with the greatest row there."""
    rows = [(ZERO, row_at(two, stretches[0].manner, ZERO))]
    for stretch in stretches:
        rows.append((stretch.high, row_at(two, stretch.manner, stretch.high)))
    return rows


def prices_at(two, share):
    """The greatest row at a share from 0 to 1."""
    if not is_share(share):
        raise BadShare()
    if share in (ZERO, ONE):
        stretch = share_list(two)[0 if share == ZERO else -1]
        return row_at(two, stretch.manner, share)
    return greatest_prices(at_share(two, share))


def _is_able(two, manner):
    """Whether this is a manner of the two works that can make all of its goods."""
    try:
        check_able(two, manner)
    except (BadManner, CannotMake):
        return False
    return True


def _are_stretches(thing):
    """Whether this is a sequence of stretches that is not empty."""
    return is_sequence(thing) and len(thing) > 0 and all([isinstance(one, Stretch) for one in thing])


def _are_joined(stretches):
    """Whether the stretches go from 0 to 1, each from where the one before it ends."""
    if stretches[0].low != ZERO or stretches[-1].high != ONE:
        return False
    return all([one.high == other.low for one, other in zip(stretches, stretches[1:])])


def _is_dear(stretch, gaps):
    """Whether at the low or at the high of the stretch a recipe undercuts its manner's own row."""
    ends = (stretch.low, stretch.high)
    return any([compare(mixed(first, second, share), ZERO) < 0 for _, first, second in gaps for share in ends])


def _has_lesser(two, stretch, gaps):
    """Whether a good has a lesser recipe that is tight on the whole stretch."""
    tight = [number for number, first, second in gaps if first == ZERO and second == ZERO]
    return any([number < stretch.manner[two.recipes[number].good] for number in tight])


def stretches_fault(two, stretches):
    """Judges whether these are the list of stretches."""
    if not _are_stretches(stretches):
        return "many"
    if not all([is_share(one.low) and is_share(one.high) and compare(one.low, one.high) < 0 for one in stretches]):
        return "range"
    if not _are_joined(stretches):
        return "joined"
    if not all([_is_able(two, one.manner) for one in stretches]):
        return "manner"
    making = making_recipes(two)
    told = [(one, _gaps_beside(two, making, one.manner)) for one in stretches]
    if any([_is_dear(one, gaps) for one, gaps in told]):
        return "dear"
    if any([_has_lesser(two, one, gaps) for one, gaps in told]):
        return "least"
    if any([tuple(one.manner) == tuple(other.manner) for one, other in zip(stretches, stretches[1:])]):
        return "alike"
    return None
