"""The errors of the package: one class for each kind of failure."""


class LagError(ValueError):
    """Any failure that the document names."""


class BadSchedule(LagError):
    """Not a schedule (part is None), or the part of one that is not as it must be."""

    def __init__(self, part):
        super().__init__(f"not as a schedule must be: {part}")
        self.part = part


class BadLag(LagError):
    """Not a lag."""


class BadEdition(LagError):
    """Not the number of an edition, or not an edition."""


class BadState(LagError):
    """Not a state, or not a number of steps that have begun."""


class BadDeed(LagError):
    """Not a deed that can be done."""


class BadDeeds(LagError):
    """Not a list or tuple (index is None), or the first item that cannot be done."""

    def __init__(self, index):
        super().__init__(f"not as deeds must be: {index}")
        self.index = index


class BadWish(LagError):
    """Not a wish."""


class BadTable(LagError):
    """Not a width, a first edition and a last one."""


class BadPrices(LagError):
    """Not prices."""


class BadLimit(LagError):
    """Not a limit of prices."""


class TooLarge(LagError):
    """More than the document allows to be looked at."""


class BadOffers(LagError):
    """Not offers, or not a lot of them."""


class BadPair(LagError):
    """Two schedules that cannot be woven."""


class BadPlan(LagError):
    """Not a plan."""


class NotRight(LagError):
    """A schedule that is not right."""


class BadRows(LagError):
    """Not a number of rows."""


class BadIndex(LagError):
    """Not the number of an index."""


class BadValue(LagError):
    """Not a value of a row."""


class NotPublic(LagError):
    """An index that no server looks rows up by."""


class NothingDone(LagError):
    """There is nothing that can be undone."""


class BadText(LagError):
    """Not a text that can be read; row is the first line that is wrong."""

    def __init__(self, row):
        super().__init__(f"not as a text must be: {row}")
        self.row = row


class BadWaits(LagError):
    """Not waits."""


class BadRepair(LagError):
    """Not a repair."""
