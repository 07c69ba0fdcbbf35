"""Gifts of goods that free others."""

from leastlabour.lots import all_lots, holds_one_of
from leastlabour.making import can_be_made
from leastlabour.selfeating import self_eating
from leastlabour.wishes import check_lot


def frees(works, gifts, lot):
    """Whether each good of the lot is a gift or can be made with the gifts given."""
    given = check_lot(works.goods, gifts)
    asked = check_lot(works.goods, lot)
    made = can_be_made(works, given=given)
    return all([good in given or good in made for good in asked])


def barring_lot(works, gifts, lot):
    """None if the gifts free the lot, else the greatest self-eating lot that holds no gift."""
    if frees(works, gifts, lot):
        return None
    return self_eating(works, given=gifts).lot


def least_gifts(works, lot):
    """The least lots of gifts that free the lot, fewer goods first, then ascending."""
    asked = check_lot(works.goods, lot)
    least = []
    for gifts in all_lots(list(range(works.goods))):
        if not holds_one_of(gifts, least) and frees(works, gifts, asked):
            least.append(gifts)
    return tuple(least)
