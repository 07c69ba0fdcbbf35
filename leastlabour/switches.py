"""At which rates recipes change places, and up to which rates manners can make and are best."""

from leastlabour.errors import BadManner, BadSpan, CannotRun, NoRecipe, NotMade, NotOne, OutOfManner
from leastlabour.making import making_recipes
from leastlabour.ownrows import can_make, check_whole
from leastlabour.polynomials import product_polynomial, sum_polynomial
from leastlabour.rates import at_rate
from leastlabour.ratios import ONE, ZERO, is_ratio_from, is_whole, negative, times_row
from leastlabour.roots import check_span, check_width, find_roots, is_never_below, is_wider, middle_of, sides_of
from leastlabour.wishes import check_good, check_manner, eats_within, goods_of
from leastlabour.works import is_above_zero

WASTING = ((1, 1), (1, 1))


class Switches:
    """The pieces with the rates at which a recipe and a manner cost alike, and the signs between them."""

    def __init__(self, spans, sides):
        self.spans = spans
        self.sides = sides

    def __eq__(self, other):
        return isinstance(other, Switches) and self.spans == other.spans and self.sides == other.sides


def check_rates(low, high):
    """Raises BadSpan unless these are two rates, the low one first."""
    if not is_ratio_from(low, ZERO):
        raise BadSpan("low")
    check_span(low, high)


def _constant(number):
    """The polynomial that has this value at all places."""
    return () if number == ZERO else (number,)


def _times(polynomial, number):
    """The polynomial times a number."""
    return times_row(polynomial, number) if number != ZERO else ()


def _determinant(rows):
    """The determinant of as many rows of polynomials as they have places."""
    # For each lot of places the determinant of the rows up to now at just these places.
    minors = {(): (ONE,)}
    for row in rows:
        wider = {}
        for lot, minor in minors.items():
            for place, entry in enumerate(row):
                if entry != () and place not in lot:
                    passed = len([other for other in lot if other > place])
                    part = product_polynomial(minor, _times(entry, (-1, 1)) if passed & 1 else entry)
                    key = tuple(sorted(lot + (place,)))
                    wider[key] = sum_polynomial(wider.get(key, ()), part)
        minors = wider
    return minors.get(tuple(range(len(rows))), ())


def _rows_of(works, manner):
    """For each good of the manner the row of 1 at itself less what its recipe eats at a rate, as polynomials."""
    goods = goods_of(manner)
    rows = []
    for good in goods:
        eats = works.recipes[manner[good]].eats
        rows.append([sum_polynomial(_times(WASTING, negative(eats[other])), _constant(ONE if other == good else ZERO))
                     for other in goods])
    return rows


def _priced_rows(works, manner, good):
    """The same rows with the labours in the place of the entries of the good."""
    goods = goods_of(manner)
    at = goods.index(good)
    labours = [_constant(works.recipes[manner[other]].labour) for other in goods]
    return [row[:at] + [labour] + row[at + 1:] for row, labour in zip(_rows_of(works, manner), labours)]


def polynomials_by(works, manner):
    """The making polynomial of a closed manner, and for each good its price polynomial, None where it has None."""
    prices = [None if entry is None else _determinant(_priced_rows(works, manner, good))
              for good, entry in enumerate(manner)]
    return _determinant(_rows_of(works, manner)), prices


def switch_by(recipe, making, prices):
    """The switch polynomial of a recipe for a making polynomial and price polynomials."""
    eaten = ()
    for many, price in zip(recipe.eats, prices):
        if many != ZERO:
            eaten = sum_polynomial(eaten, _times(price, many))
    cost = sum_polynomial(_times(making, recipe.labour), product_polynomial(WASTING, eaten))
    return sum_polynomial(cost, _times(prices[recipe.good], (-1, 1)))


def making_polynomial(works, manner):
    """The determinant of the manner's rows, as a polynomial in the rate."""
    return _determinant(_rows_of(works, check_manner(works, manner)))


def price_polynomial(works, manner, good):
    """The polynomial that is, divided by the making polynomial, the manner's own price of the good."""
    told = check_manner(works, manner)
    if told[check_good(works.goods, good)] is None:
        raise NotMade(good)
    return _determinant(_priced_rows(works, told, good))


def switch_polynomial(works, manner, recipe):
    """The polynomial whose sign tells whether the recipe is dearer than the manner's own one or cheaper."""
    told = check_manner(works, manner)
    if not is_whole(recipe, 0, len(works) - 1):
        raise NoRecipe(recipe)
    goods = goods_of(told)
    if works.recipes[recipe].good not in goods or not eats_within(works.recipes[recipe], goods):
        raise OutOfManner(recipe)
    making, prices = polynomials_by(works, told)
    return switch_by(works.recipes[recipe], making, prices)


def _one_change(manner, other):
    """The recipe that the other manner has at the one good at which both are unlike."""
    unlike = [good for good, entry in enumerate(manner) if entry != other[good]]
    if len(unlike) != 1 or manner[unlike[0]] is None or other[unlike[0]] is None:
        raise NotOne()
    return other[unlike[0]]


def find_switches(works, manner, other, low, high, width):
    """The Switches of two manners unlike at one good, at rates from low to high."""
    told, changed = check_manner(works, manner), check_manner(works, other)
    check_rates(low, high)
    check_width(width)
    recipe = _one_change(told, changed)
    wasting = at_rate(works, high)
    if not can_make(wasting, told) or not can_make(wasting, changed):
        raise CannotRun()
    switch = switch_polynomial(works, told, recipe)
    spans = find_roots(switch, low, high, width) if switch != () else ()
    return Switches(spans, sides_of(switch, low, high))


def limit_of(works, manner, high, width):
    """A couple of rates, the first below and the second at or above the limit up to which the manner can make."""
    told = check_manner(works, manner)
    if not is_above_zero(high):
        raise BadSpan("high")
    check_width(width)
    if not can_make(works, told):
        raise CannotRun()
    if can_make(at_rate(works, high), told):
        return None
    low = ZERO
    while is_wider(low, high, width):
        middle = middle_of(low, high)
        if can_make(at_rate(works, middle), told):
            low = middle
        else:
            high = middle
    return (low, high)


def switches_of(works, manner):
    """For each making recipe its number and its switch polynomial beside a manner of the works."""
    making, prices = polynomials_by(works, manner)
    return [(number, switch_by(works.recipes[number], making, prices)) for number in making_recipes(works)]


def none_undercuts(switches, low, high):
    """Whether no recipe undercuts a manner that can make at rates from low to high."""
    return all([is_never_below(switch, low, high) for _, switch in switches])


def is_best_within(works, manner, low, high):
    """Whether the manner is best at all rates from low to high."""
    told = check_manner(works, manner)
    check_rates(low, high)
    try:
        check_whole(works, told)
    except BadManner:
        return False
    return can_make(at_rate(works, high), told) and none_undercuts(switches_of(works, told), low, high)
