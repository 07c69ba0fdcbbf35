"""Claims about prices and recipes, decided for all labours that keep the facts."""

from leastlabour.errors import BadClaim, NoRecipe
from leastlabour.facts import check_facts, with_labours
from leastlabour.making import can_be_made, making_recipes
from leastlabour.parts import able_manners, parts_by
from leastlabour.prices import greatest_prices, tight_recipes
from leastlabour.ratios import ONE, ZERO, compare, is_whole, minus, negative, plus_rows, times, times_row
from leastlabour.tasks import Found, find_from
from leastlabour.unknown import check_kept, gap_rows, labours_from, task_of, task_to_be_best, unit_row
from leastlabour.wishes import check_wished, pieces_of
from leastlabour.works import is_above_zero


class Sure:
    """Weights that bar all tasks of labours at which the claim is not true."""

    def __init__(self, papers):
        self.papers = papers

    def __eq__(self, other):
        return isinstance(other, Sure) and self.papers == other.papers


class Never:
    """Weights that bar all tasks of labours at which the claim is true."""

    def __init__(self, papers):
        self.papers = papers

    def __eq__(self, other):
        return isinstance(other, Never) and self.papers == other.papers


class Both:
    """Labours at which the claim is true, and labours at which it is not."""

    def __init__(self, yes, no):
        self.yes = yes
        self.no = no

    def __eq__(self, other):
        return isinstance(other, Both) and self.yes == other.yes and self.no == other.no


def _is_claim(thing):
    """Whether this is a tuple that begins with one of the words and has as many entries as that asks for."""
    if not isinstance(thing, tuple):
        return False
    if thing[:1] in (("above",), ("least",)):
        return len(thing) == 4
    return thing[:1] in (("used",), ("missed",)) and len(thing) == 2


def _check_prices_told(works, claim):
    """Raises an error unless a claim of two goods speaks of goods that can be made, and of a ratio above 0."""
    _, good, size, other = claim
    last = works.goods - 1
    if not is_whole(good, 0, last) or not is_whole(other, 0, last):
        raise BadClaim("good")
    if not is_above_zero(size):
        raise BadClaim("ratio")
    made = can_be_made(works)
    check_wished(pieces_of(works.goods, (good,)), made)
    check_wished(pieces_of(works.goods, (other,)), made)


def check_claim(works, claim):
    """The claim, if it is one."""
    if not _is_claim(claim):
        raise BadClaim("claim")
    if len(claim) == 4:
        _check_prices_told(works, claim)
    elif not is_whole(claim[1], 0, len(works) - 1):
        raise BadClaim("recipe")
    return claim


def true_at(works, labours, claim):
    """Whether the claim is true at these labours."""
    changed = with_labours(works, labours)
    check_claim(works, claim)
    if len(claim) == 2:
        word, recipe = claim
        tight = tight_recipes(changed)[works.recipes[recipe].good]
        return recipe in tight if word == "used" else tight == (recipe,)
    word, good, size, other = claim
    prices = greatest_prices(changed)
    sign = compare(prices[good], times(size, prices[other]))
    return sign > 0 if word == "above" else sign >= 0


def let_rows(works):
    """For each making recipe the row, at labours and then prices, that is at least 0 where it does not undercut."""
    rows = []
    for number in making_recipes(works):
        recipe = works.recipes[number]
        eaten = [minus(many, ONE if good == recipe.good else ZERO) for good, many in enumerate(recipe.eats)]
        rows.append(unit_row(len(works), number) + tuple(eaten))
    return rows


def _price_tasks(works, facts, claim, holds):
    """The tasks for a claim of two goods: let prices of the one good beside the parts of the other one."""
    word, good, size, other = claim
    high, high_size, low, low_size = (good, ONE, other, size) if holds else (other, size, good, ONE)
    places = len(works) + works.goods
    let = [(row, ZERO) for row in let_rows(works)]
    price = times_row(unit_row(places, len(works) + high), high_size)
    total = ONE if (word == "above") == holds else ZERO
    tasks = []
    for manner in able_manners(works):
        needed = times_row(parts_by(works, manner)[low], negative(low_size)) + (ZERO,) * works.goods
        tasks.append(task_of(works, facts, let + [(plus_rows(price, needed), total)], places))
    return tuple(tasks)


def _unlike_task(works, facts, manner, recipe, sign):
    """The task of a manner, but where the gap of the recipe, times the sign, is at least 1."""
    told = []
    for number, row in gap_rows(works, manner):
        told.append((times_row(row, sign), ONE) if number == recipe else (row, ZERO))
    return task_of(works, facts, told, len(works))


def _recipe_tasks(works, facts, claim, holds):
    """The tasks for a claim of one recipe."""
    word, recipe = claim
    bare = task_of(works, facts, [], len(works))
    if recipe not in making_recipes(works):
        return () if holds else (bare,)
    manners = list(able_manners(works))
    without = [manner for manner in manners if recipe not in manner]
    if word == "used" and holds:
        return tuple([task_to_be_best(works, facts, manner) for manner in manners if recipe in manner])
    if word == "used":
        return tuple([_unlike_task(works, facts, manner, recipe, ONE) for manner in without])
    if not holds:
        return tuple([task_to_be_best(works, facts, manner) for manner in without])
    if not without:
        return (bare,)
    return tuple([_unlike_task(works, facts, manner, recipe, (-1, 1)) for manner in without])


def _tasks(works, facts, claim, holds):
    """The answer of claim_tasks for right arguments."""
    if len(claim) == 4:
        return _price_tasks(works, facts, claim, holds)
    return _recipe_tasks(works, facts, claim, holds)


def claim_tasks(works, facts, claim, holds):
    """The tasks one of which labours 1 + x meet if they keep the facts and make the claim true, or not true."""
    told = check_facts(works, facts)
    return _tasks(works, told, check_claim(works, claim), holds)


def _first_labours(works, tasks):
    """Labours from the first task that numbers meet and (), or None and the weights that bar all tasks."""
    papers = []
    for rows, least in tasks:
        told = find_from(rows, least)
        if isinstance(told, Found):
            return labours_from(works, told.numbers), ()
        papers.append(told.weights)
    return None, tuple(papers)


def _decided(works, facts, claim):
    """The answer of decide for right arguments and facts that some labours keep."""
    no, papers = _first_labours(works, _tasks(works, facts, claim, False))
    if no is None:
        return Sure(papers)
    yes, papers = _first_labours(works, _tasks(works, facts, claim, True))
    if yes is None:
        return Never(papers)
    return Both(yes, no)


def decide(works, facts, claim):
    """Sure or Never if all labours that keep the facts make the claim true or not true, else Both."""
    told = check_facts(works, facts)
    check_claim(works, claim)
    check_kept(works, told)
    return _decided(works, told, claim)


def sure_pairs(works, facts):
    """The couples of unlike goods that can be made, ascending, of which the first surely costs at least the other."""
    told = check_facts(works, facts)
    check_kept(works, told)
    made = can_be_made(works)
    pairs = [(good, other) for good in made for other in made if good != other]
    return tuple([(good, other) for good, other in pairs
                  if isinstance(_decided(works, told, ("least", good, ONE, other)), Sure)])


def standing(works, facts, recipe):
    """Whether the recipe is "idle", a "tie", missed at "some" or at "all" labours that keep the facts."""
    told = check_facts(works, facts)
    if not is_whole(recipe, 0, len(works) - 1):
        raise NoRecipe(recipe)
    check_kept(works, told)
    if isinstance(_decided(works, told, ("used", recipe)), Never):
        return "idle"
    missed = _decided(works, told, ("missed", recipe))
    if isinstance(missed, Never):
        return "tie"
    return "all" if isinstance(missed, Sure) else "some"
