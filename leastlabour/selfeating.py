"""Weights and lots of goods that eat themselves: what shows that goods cannot be made."""

from leastlabour.errors import BadWeights
from leastlabour.lots import all_lots, holds_one_of
from leastlabour.making import asked_of, can_be_made, piece_answers
from leastlabour.ratios import compare
from leastlabour.tasks import Barred
from leastlabour.weights import are_weights, divisor_of, in_lowest, weigh
from leastlabour.wishes import check_lot, is_ascending, others_of


class SelfEating:
    """The lot of the goods that cannot be made, and self-eating weights above 0 at just these."""

    def __init__(self, lot, weights):
        self.lot = lot
        self.weights = weights

    def __eq__(self, other):
        return isinstance(other, SelfEating) and self.lot == other.lot and self.weights == other.weights


def self_eating(works, *, given=(), using=None):
    """None if all goods outside `given` can be made, else the SelfEating of those that cannot."""
    goods, numbers = asked_of(works, given, using)
    weights = [0] * works.goods
    lot = []
    for good, answer in zip(goods, piece_answers(works, goods, numbers)):
        if isinstance(answer, Barred):
            lot.append(good)
            # Self-eating weights stay so when added up, and these are above 0 at this good.
            for other, weight in zip(goods, answer.weights):
                weights[other] += weight
    return SelfEating(tuple(lot), in_lowest(weights)) if lot else None


def _loss_among(works, weights, numbers):
    """The first of these recipes that eats less weight than its piece weighs, or None."""
    for number in numbers:
        recipe = works.recipes[number]
        if compare(weigh(weights, recipe.eats), (weights[recipe.good], 1)) < 0:
            return number
    return None


def _unmade_fault(works, told, goods, numbers, made):
    """The word for a SelfEating, for the goods that are not given and the recipes that may be used."""
    if not are_weights(told.weights, works.goods) or divisor_of(told.weights) == 0:
        return "weights"
    if divisor_of(told.weights) > 1:
        return "divisor"
    lot = tuple([good for good, weight in enumerate(told.weights) if weight > 0])
    if any([good not in goods for good in lot]):
        return "given"
    if not is_ascending(told.lot, works.goods) or tuple(told.lot) != lot:
        return "lot"
    if _loss_among(works, told.weights, numbers) is not None:
        return "recipe"
    if any([good not in lot and good not in made for good in goods]):
        return "greatest"
    return None


def self_eating_fault(works, told, *, given=(), using=None):
    """Judges an answer of `self_eating`: None or a SelfEating."""
    goods, numbers = asked_of(works, given, using)
    made = can_be_made(works, given=given, using=using)
    if told is None:
        return None if made == goods else "none"
    return _unmade_fault(works, told, goods, numbers, made)


def first_loss(works, weights):
    """The least number of a recipe that eats less weight than its piece weighs, or None."""
    if not are_weights(weights, works.goods):
        raise BadWeights()
    return _loss_among(works, weights, list(range(len(works))))


def is_self_eating_lot(works, lot):
    """Whether weights that are self-eating for all recipes are above 0 at exactly the goods of the lot."""
    asked = check_lot(works.goods, lot)
    return asked != () and can_be_made(works, given=others_of(works.goods, asked)) == ()


def self_eating_lots(works):
    """Yields all self-eating lots, fewer goods first, then ascending."""
    for lot in all_lots(list(range(works.goods))):
        if is_self_eating_lot(works, lot):
            yield lot


def least_self_eating_lots(works):
    """The self-eating lots within which no other one lies, in the same order."""
    least = []
    for lot in self_eating_lots(works):
        if not holds_one_of(lot, least):
            least.append(lot)
    return tuple(least)
