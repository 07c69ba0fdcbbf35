"""The amounts that a manner takes for one piece of each good, whatever the labours are."""

from leastlabour.ownrows import amounts_by, can_make, check_able, manners_of
from leastlabour.wishes import piece_of


def able_manners(works):
    """Yields the manners of the works that can make all their goods, in the order of `manners_of`."""
    for manner in manners_of(works):
        if can_make(works, manner):
            yield manner


def parts_by(works, manner):
    """The parts of all goods by an able manner, None where it has None."""
    return tuple([None if entry is None else amounts_by(works, manner, piece_of(works.goods, good))
                  for good, entry in enumerate(manner)])


def parts_of(works, manner):
    """For each good the amounts of the manner's recipes that leave exactly one piece of it, None where it has none."""
    return parts_by(works, check_able(works, manner))
