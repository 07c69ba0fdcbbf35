"""Going through lots: fewer things first, then ascending."""


def all_lots(things):
    """All ascending tuples of some of the ascending things, fewer first, then ascending."""
    lots, longest = [()], [()]
    for _ in things:
        longest = [lot + (thing,) for lot in longest for thing in things if not lot or thing > lot[-1]]
        lots = lots + longest
    return tuple(lots)


def holds_all(lot, inner):
    """Whether all of the inner lot lies within the lot."""
    return all([thing in lot for thing in inner])


def holds_one_of(lot, lots):
    """Whether one of the lots lies within the lot."""
    return any([holds_all(lot, inner) for inner in lots])


def one_of_each(rows):
    """All tuples of one entry of each row, ascending as the rows are; None stands for the entry of an empty row."""
    chosen = [()]
    for row in rows:
        entries = row if row else (None,)
        chosen = [one + (entry,) for one in chosen for entry in entries]
    return chosen
