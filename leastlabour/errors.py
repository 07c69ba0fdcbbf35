"""All errors of the package, each directly under WorksError."""


class WorksError(ValueError):
    """What every error of the package is."""


class BadRatio(WorksError):
    """No ratio comes of this."""

    def __init__(self, what):
        self.what = what


class BadRecipe(WorksError):
    """No recipe comes of this."""

    def __init__(self, what):
        self.what = what


class BadWorks(WorksError):
    """No works come of this."""

    def __init__(self, index, what):
        self.index = index
        self.what = what


class NoGood(WorksError):
    """No good of the works has this number."""

    def __init__(self, good):
        self.good = good


class NoRecipe(WorksError):
    """No recipe of the works has this number."""

    def __init__(self, number):
        self.number = number


class BadLabour(WorksError):
    """A labour that is not let."""


class BadOrder(WorksError):
    """No order of the goods."""


class BadSize(WorksError):
    """No size of a piece."""


class BadWish(WorksError):
    """No wish for these goods."""


class BadAmounts(WorksError):
    """No amounts of these recipes."""


class BadLot(WorksError):
    """No lot of these goods."""


class BadManner(WorksError):
    """No manner that is let here."""


class BadText(WorksError):
    """A text that shows nothing; number is the row of the text."""

    def __init__(self, number, what):
        self.number = number
        self.what = what


class BadTask(WorksError):
    """No task or system."""

    def __init__(self, what):
        self.what = what


class BadNumbers(WorksError):
    """No numbers of these recipes."""


class NotMade(WorksError):
    """This good cannot be made."""

    def __init__(self, good):
        self.good = good


class CannotMake(WorksError):
    """The manner cannot make all its goods."""


class BadWeights(WorksError):
    """No weights of these goods."""


class BadStock(WorksError):
    """No stock of these goods."""


class BadPlan(WorksError):
    """No plan for these works."""

    def __init__(self, index, what):
        self.index = index
        self.what = what


class BadPrices(WorksError):
    """No row of prices."""

    def __init__(self, what):
        self.what = what


class BadShare(WorksError):
    """No share that is let here."""


class BadOffer(WorksError):
    """No offer of labour."""

    def __init__(self, what):
        self.what = what


class BadFact(WorksError):
    """No facts about these recipes."""

    def __init__(self, index, what):
        self.index = index
        self.what = what


class BadLabours(WorksError):
    """No labours of these recipes."""


class BadClaim(WorksError):
    """No claim about these works."""

    def __init__(self, what):
        self.what = what


class NoLabours(WorksError):
    """No labours keep the facts."""


class BadRate(WorksError):
    """No rate."""


class BadParts(WorksError):
    """No parts of a rate."""

    def __init__(self, what):
        self.what = what


class BadSteps(WorksError):
    """No number of steps."""


class BadPolynomial(WorksError):
    """No polynomial."""


class BadPlace(WorksError):
    """No place at which a polynomial has a value."""


class IsNought(WorksError):
    """The polynomial is nought."""


class BadSpan(WorksError):
    """No span of rates."""

    def __init__(self, what):
        self.what = what


class CannotRun(WorksError):
    """The manner cannot make at the rate."""


class OutOfManner(WorksError):
    """This recipe has to do with goods outside the manner."""

    def __init__(self, number):
        self.number = number


class NotOne(WorksError):
    """The manners are not unlike at just one good."""


class BadMarket(WorksError):
    """No market of these goods."""

    def __init__(self, index, what):
        self.index = index
        self.what = what


class BadRise(WorksError):
    """No rise of a labour."""


class UnlikeGoods(WorksError):
    """The works have unlike numbers of goods."""


class BadChange(WorksError):
    """No changes of these works."""

    def __init__(self, index, what):
        self.index = index
        self.what = what


class BadChoice(WorksError):
    """No choice of this pool."""


class BadGoal(WorksError):
    """No goals for these works."""

    def __init__(self, index, what):
        self.index = index
        self.what = what


class BadLimit(WorksError):
    """No limit of a price."""


class NoChange(WorksError):
    """No standing change has this number."""

    def __init__(self, number):
        self.number = number
