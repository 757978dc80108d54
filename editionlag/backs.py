"""Ways back: the cheapest steps by which a schedule that has begun comes home to its own first edition."""

from editionlag.checks import check_lag, is_number
from editionlag.errors import BadState, NotRight
from editionlag.looks import Roads, check_costs, price_of
from editionlag.schedules import check_schedule


def checked_start(schedule, begun, prices, limit, lag):
    """Checks all five, and returns roads and the look on them of the steps that have begun."""
    check_schedule(schedule)
    check_lag(lag)
    if not is_number(begun, len(schedule)):
        raise BadState("not a number of steps that have begun")
    check_costs(prices, limit)
    roads = Roads(schedule.width, schedule.first, prices, lag)
    start = roads.behind_all(roads.first_look(), schedule.steps[:begun])
    if start is None:
        raise NotRight("the steps that have begun are not right alone")
    return roads, start


class Back:
    """The cheapest steps that come home again, and levels that show that none are cheaper."""

    def __init__(self, way, levels):
        self.way = way
        self.levels = {look: levels[look] for look in levels}

    def __eq__(self, other):
        return isinstance(other, Back) and self.way == other.way and self.levels == other.levels

    def shows(self, schedule, begun, prices, limit, *, lag=1):
        """Tells whether the steps come home within the limit, and the levels show that none are cheaper."""
        roads, start = checked_start(schedule, begun, prices, limit, lag)
        if not roads.is_way(start, schedule.first, self.way, limit):
            return False
        return roads.are_levels(start, schedule.first, self.levels, price_of(self.way, prices))


class NoBack:
    """Levels that show that no steps come home again within a limit."""

    def __init__(self, levels):
        self.levels = {look: levels[look] for look in levels}

    def __eq__(self, other):
        return isinstance(other, NoBack) and self.levels == other.levels

    def shows(self, schedule, begun, prices, limit, *, lag=1):
        """Tells whether the levels show that no steps come home within the limit."""
        roads, start = checked_start(schedule, begun, prices, limit, lag)
        return roads.are_levels(start, schedule.first, self.levels, limit + 1)


def back(schedule, begun, prices, limit, *, lag=1):
    """Returns a Back or a NoBack."""
    roads, start = checked_start(schedule, begun, prices, limit, lag)
    way, levels = roads.cheapest_from(start, schedule.first, limit)
    return NoBack(levels) if way is None else Back(way, levels)


def back_price(schedule, begun, prices, limit, *, lag=1):
    """Returns the price of the cheapest way back within a limit, or None."""
    found = back(schedule, begun, prices, limit, lag=lag)
    return price_of(found.way, prices) if isinstance(found, Back) else None


def back_prices(schedule, prices, limit, *, lag=1):
    """Returns the prices of the cheapest ways back as long as the steps that have begun are right."""
    roads, look = checked_start(schedule, 0, prices, limit, lag)
    found = []
    for step in [None] + list(schedule.steps):
        look = look if step is None else roads.behind(look, step)
        if look is None:
            return found
        way, _ = roads.cheapest_from(look, schedule.first, limit)
        found.append(None if way is None else price_of(way, prices))
    return found
