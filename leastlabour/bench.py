"""A bench on which changes of works are put and taken back."""

from leastlabour.changes import apply_changes
from leastlabour.errors import NoChange
from leastlabour.prices import greatest_prices
from leastlabour.ratios import is_whole


class Bench:
    """Works, the changes that stand on them, and all that was done."""

    def __init__(self, works):
        self.works = works
        self.works_now = apply_changes(works, ())
        self.standing = ()
        self.log = ()

    def __len__(self):
        return len(self.standing)

    def __iter__(self):
        return iter(self.standing)

    def put(self, change):
        """Puts a change on the bench and returns its number."""
        self.works_now = apply_changes(self.works, [told for _, told in self.standing] + [change])
        number = 1 + len([step for step in self.log if step[0] == "put"])
        self.standing = self.standing + ((number, tuple(change)),)
        self.log = self.log + (("put", number, tuple(change)),)
        return number

    def take_back(self, number):
        """Takes the standing change of this number back."""
        found = [told for told in self.standing if is_whole(number) and told[0] == number]
        if not found:
            raise NoChange(number)
        kept = tuple([told for told in self.standing if told[0] != number])
        self.works_now = apply_changes(self.works, [change for _, change in kept])
        self.standing = kept
        self.log = self.log + (("back", number, found[0][1]),)

    def prices_now(self):
        """The greatest prices behind the standing changes."""
        return greatest_prices(self.works_now)

    def tried(self, work):
        """What work returns for this bench, which is as before afterwards, also after an error."""
        works_now, standing, log = self.works_now, self.standing, self.log
        try:
            return work(self)
        finally:
            self.works_now, self.standing, self.log = works_now, standing, log

    def trial(self):
        """What a `with` takes: at the end of its block the bench is as at its entry."""
        return Trial(self)


class Trial:
    """Holds what a bench was at the entry of a block."""

    def __init__(self, bench):
        self.bench = bench

    def __enter__(self):
        held = self.bench
        self.works_then = held.works_now
        self.standing_then = held.standing
        self.log_then = held.log
        return held

    def __exit__(self, kind, value, trace):
        held = self.bench
        held.works_now = self.works_then
        held.standing = self.standing_then
        held.log = self.log_then
