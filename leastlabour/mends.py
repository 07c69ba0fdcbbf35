"""The least choices of a pool of changes that bring about all goals."""

from leastlabour.changes import check_changes, numbered_behind
from leastlabour.errors import BadChange, BadChoice, BadGoal
from leastlabour.lots import all_lots, holds_one_of
from leastlabour.prices import greatest_prices, tight_at
from leastlabour.ratios import compare, is_ratio, is_sequence, is_whole
from leastlabour.wishes import is_ascending
from leastlabour.works import Works

MOST_POOL = 5
MOST_GOALS = 4


class Mends:
    """The rows of all least choices, and of all choices that neither are least nor hold a least one."""

    def __init__(self, least, others):
        self.least = least
        self.others = others

    def __eq__(self, other):
        return isinstance(other, Mends) and self.least == other.least and self.others == other.others

    @property
    def choices(self):
        """The least choices."""
        return tuple([row[0] for row in self.least])

    @property
    def needed(self):
        """The ascending places that are in every least choice."""
        choices = [row[0] for row in self.least]
        first = choices[0] if choices else ()
        return tuple([place for place in first if all([place in choice for choice in choices])])


class Spoiler:
    """A place of the pool with which a least choice is no longer good, and the first goal that is unmet then."""

    def __init__(self, choice, added, goal):
        self.choice = choice
        self.added = added
        self.goal = goal

    def __eq__(self, other):
        return (isinstance(other, Spoiler) and self.choice == other.choice and self.added == other.added
                and self.goal == other.goal)


def all_choices(size):
    """Yields the choices of a pool of so many changes, shorter ones first, then ascending."""
    if not is_whole(size, 0, MOST_POOL):
        raise BadChange(0, "pool")
    yield from all_lots(list(range(size)))


def _check_pool(works, pool):
    """The changes of the pool as a tuple of tuples."""
    if not is_sequence(pool) or not 1 <= len(pool) <= MOST_POOL:
        raise BadChange(0, "pool")
    return check_changes(works, pool)


def _is_goal(thing):
    """Whether this is a sequence with one of the four words first and as many entries as it has."""
    if not is_sequence(thing) or not thing:
        return False
    short = thing[0] in ("made", "used")
    return (short or thing[0] in ("at most", "dearer")) and len(thing) == (2 if short else 3)


def _goal_fault(goods, many, goal):
    """The first word for a goal about so many goods and so many numbers of a sequence, or None."""
    if not _is_goal(goal):
        return "goal"
    if goal[0] == "used":
        return None if is_whole(goal[1], 0, many - 1) else "number"
    if not is_whole(goal[1], 0, goods - 1) or goal[0] == "dearer" and not is_whole(goal[2], 0, goods - 1):
        return "good"
    if goal[0] == "at most" and not is_ratio(goal[2]):
        return "ratio"
    return None


def _check_goals(works, pool, goals):
    """The goals as a tuple of tuples."""
    if not is_sequence(goals) or not 1 <= len(goals) <= MOST_GOALS:
        raise BadGoal(0, "many")
    many = len(works) + len([change for change in pool if change[0] == "let"])
    for index, goal in enumerate(goals):
        word = _goal_fault(works.goods, many, goal)
        if word is not None:
            raise BadGoal(index, word)
    return tuple([tuple(goal) for goal in goals])


def _behind(works, pool, choice):
    """The greatest prices behind the choice, and the numbers of the recipes that are tight at them."""
    numbered = numbered_behind(works, pool, choice)
    changed = Works(works.goods, [recipe for _, recipe in numbered])
    prices = greatest_prices(changed)
    used = [numbered[place][0] for places in tight_at(changed, prices) for place in places]
    return prices, used


def _is_met(goal, prices, used):
    """Whether works with these greatest prices and these tight recipes meet the goal."""
    if goal[0] == "used":
        return goal[1] in used
    price = prices[goal[1]]
    if price is None or goal[0] == "made":
        return price is not None
    if goal[0] == "at most":
        return compare(price, goal[2]) <= 0
    other = prices[goal[2]]
    return other is not None and compare(price, other) > 0


def _judged(works, pool, choice, goals):
    """The greatest prices behind the choice, and the index of the first goal that is not met, or None."""
    prices, used = _behind(works, pool, choice)
    for index, goal in enumerate(goals):
        if not _is_met(goal, prices, used):
            return prices, index
    return prices, None


def first_unmet(works, pool, choice, goals):
    """The index of the first goal that the works behind the choice do not meet, or None."""
    told = _check_pool(works, pool)
    if not is_ascending(choice, len(told)):
        raise BadChoice()
    return _judged(works, told, choice, _check_goals(works, told, goals))[1]


def _mends_of(works, pool, goals):
    """The answer of find_mends for right arguments."""
    least, others = [], []
    for choice in all_lots(list(range(len(pool)))):
        if not holds_one_of(choice, [row[0] for row in least]):
            prices, goal = _judged(works, pool, choice, goals)
            if goal is None:
                least.append((choice, prices))
            else:
                others.append((choice, prices, goal))
    return Mends(tuple(least), tuple(others))


def find_mends(works, pool, goals):
    """The Mends of a pool and goals."""
    told = _check_pool(works, pool)
    return _mends_of(works, told, _check_goals(works, told, goals))


def _are_rows(thing, long, size):
    """Whether this is a tuple of tuples of so many entries, the first ones choices of a pool in their order."""
    if not isinstance(thing, tuple) or not all([isinstance(row, tuple) and len(row) == long for row in thing]):
        return False
    choices = [row[0] for row in thing]
    if not all([isinstance(choice, tuple) and is_ascending(choice, size) for choice in choices]):
        return False
    places = [(len(choice), choice) for choice in choices]
    return all([one < other for one, other in zip(places, places[1:])])


def _holds_another(choice, choices):
    """Whether one of the choices, but not this one itself, lies within the choice."""
    return holds_one_of(choice, [other for other in choices if other != choice])


def _choices_fault(size, least, others):
    """The word "within" or "lacking" for the choices of least and others, or None."""
    if any([_holds_another(choice, least) for choice in least]) or any([holds_one_of(one, least) for one in others]):
        return "within"
    if not all([choice in others or holds_one_of(choice, least) for choice in all_lots(list(range(size)))]):
        return "lacking"
    return None


def _are_prices(thing, prices):
    """Whether this is just the tuple of these prices."""
    if not isinstance(thing, tuple) or not all([price is None or is_ratio(price) for price in thing]):
        return False
    return thing == prices


def mends_fault(works, pool, goals, mends):
    """Judges a Mends."""
    told = _check_pool(works, pool)
    asked = _check_goals(works, told, goals)
    if not _are_rows(mends.least, 2, len(told)) or not _are_rows(mends.others, 3, len(told)):
        return "order"
    word = _choices_fault(len(told), [row[0] for row in mends.least], [row[0] for row in mends.others])
    if word is not None:
        return word
    least = [_judged(works, told, row[0], asked) for row in mends.least]
    others = [_judged(works, told, row[0], asked) for row in mends.others]
    if not all([_are_prices(row[1], prices) for row, (prices, _) in zip(mends.least + mends.others, least + others)]):
        return "prices"
    if any([goal is not None for _, goal in least]):
        return "met"
    if not all([is_whole(row[2]) and row[2] == goal for row, (_, goal) in zip(mends.others, others)]):
        return "unmet"
    return None


def find_spoilers(works, pool, goals):
    """For each least choice the places with which it is no longer good, ascending."""
    told = _check_pool(works, pool)
    asked = _check_goals(works, told, goals)
    spoilers = []
    for choice in _mends_of(works, told, asked).choices:
        for added in range(len(told)):
            if added not in choice:
                goal = _judged(works, told, choice + (added,), asked)[1]
                if goal is not None:
                    spoilers.append(Spoiler(choice, added, goal))
    return tuple(spoilers)
