"""Looks of schedules, and the cheapest schedules from one edition to another one.

What steps lead to hangs on the look alone, so schedules are not gone through one by
one: looks are, each once, with the least price of a right schedule that has it.
"""

from heapq import heappop, heappush

from editionlag.checks import check_lag, is_integer, is_number
from editionlag.errors import BadEdition, BadLimit, BadPrices, BadTable, TooLarge
from editionlag.judging import WISHES, Right, judged
from editionlag.schedules import WORDS, all_windows, check_schedule, is_edition, is_first_edition, is_step, is_width
from editionlag.states import come_about, is_ended, is_row, row_behind, row_visited

KINDS = ("edition", "fill", "sweep")
MOST_PRICE = 9
MOST_LIMIT = 30
MOST_LOOKS = 300


def check_road(width, first, last, prices, limit, lag):
    if not is_width(width) or not is_first_edition(first) or not is_edition(last, len(first)):
        raise BadTable("not a width, and two editions for as many indexes")
    check_costs(prices, limit)
    check_lag(lag)


def check_costs(prices, limit):
    if not are_prices(prices):
        raise BadPrices(f"not a triple of integers from 1 to {MOST_PRICE}")
    if not is_number(limit, MOST_LIMIT):
        raise BadLimit(f"not an integer from 0 to {MOST_LIMIT}")


def are_prices(prices):
    if not isinstance(prices, tuple) or len(prices) != len(KINDS):
        return False
    return all([is_number(price, MOST_PRICE) and price > 0 for price in prices])


def is_sight(sight, width, many):
    if not isinstance(sight, tuple) or len(sight) != 2:
        return False
    return is_row(sight[0], sight[1], width, many)


def is_look(look, width, many, lag):
    """Tells whether something has the parts of a look."""
    if not isinstance(look, tuple) or len(look) != 2:
        return False
    editions, sights = look
    if not isinstance(editions, tuple) or not 1 <= len(editions) <= lag + 1 or not isinstance(sights, tuple):
        return False
    told = [is_edition(edition, many) for edition in editions]
    return all(told + [is_sight(sight, width, many) for sight in sights])


def place_of(sight):
    """Returns what sights are ordered by: None stands before the numbers."""
    value, entries = sight
    return (-1 if value is None else value), entries


def price_of(steps, prices):
    return sum([prices[KINDS.index(step[0])] for step in steps])


def all_steps(many):
    """Returns the list of all steps for so many indexes."""
    editions = [()]
    for _ in range(many):
        editions = [(*edition, word) for edition in editions for word in WORDS]
    found = [("edition", edition) for edition in editions]
    return found + [(word, index) for word in ("fill", "sweep") for index in range(many)]


class Sights:
    """Sights by their numbers, and sets of them as integers, each with the bits of its sights.

    A few sights come again in hundreds of looks: so where servers lead from each
    of them is found once, and whole sets are joined and compared at a time.
    """

    def __init__(self, width, many):
        self._rows = [None] + list(range(width))
        self._told = []
        self._numbers = {}
        self._led = {}
        self._misled = [0] * many
        self._filled = [0] * many

    def number_of(self, sight):
        """Returns the number of a sight, a new one if it has none."""
        if sight not in self._numbers:
            number = len(self._told)
            self._numbers[sight] = number
            self._told.append(sight)
            value, entries = sight
            for index, held in enumerate(entries):
                if held != (() if value is None else (value,)):
                    self._misled[index] |= 1 << number
                if held:
                    self._filled[index] |= 1 << number
        return self._numbers[sight]

    def set_of(self, sights):
        found = 0
        for sight in sights:
            found |= 1 << self.number_of(sight)
        return found

    def sights_of(self, bits):
        """Returns the tuple of the sights of a set, ascending."""
        found = [sight for number, sight in enumerate(self._told) if (bits >> number) & 1]
        return tuple(sorted(found, key=place_of))

    def led_by(self, edition, number):
        """Returns the set of the sights to which servers of an edition lead from one by one deed."""
        key = (edition, number)
        if key not in self._led:
            value, entries = self._told[number]
            news = [new for new in self._rows if new != value]
            self._led[key] = self.set_of([row_behind(edition, value, entries, new) for new in news])
        return self._led[key]

    def closed(self, editions, bits):
        """Returns the set of the sights to which servers of some editions lead from a set, and these."""
        found = fresh = bits
        while fresh:
            number = fresh.bit_length() - 1
            fresh ^= 1 << number
            behind = 0
            for edition in editions:
                behind |= self.led_by(edition, number)
            behind ^= behind & found
            found |= behind
            fresh |= behind
        return found

    def visited(self, step, bits):
        """Returns the set of the sights behind the visit of a fill or a sweep."""
        return self.set_of([row_visited(step, value, entries) for value, entries in self.sights_of(bits)])

    def is_misled(self, editions, bits):
        """Tells whether a public look by some edition misses a row, or finds a stray one, at a sight of a set."""
        found = 0
        for index, misled in enumerate(self._misled):
            if any([edition[index] == "public" for edition in editions]):
                found |= misled
        return (bits & found) > 0

    def has_left(self, edition, bits):
        """Tells whether an index that is absent in an edition has an entry at a sight of a set."""
        told = [word == "absent" and (bits & filled) > 0 for word, filled in zip(edition, self._filled)]
        return any(told)


class Roads:
    """Looks of right schedules from a first edition on, and the steps from one to another.

    A look is coded as a pair of its editions and the set of its sights.
    """

    def __init__(self, width, first, prices, lag):
        self._sights = Sights(width, len(first))
        self._width = width
        self._first = first
        self._prices = prices
        self._lag = lag
        self._steps = all_steps(len(first))

    def first_look(self):
        """Returns the look of the schedule without steps."""
        editions = (self._first,)
        nothing = (None, tuple([() for _ in self._first]))
        return editions, self._sights.closed(editions, self._sights.set_of([nothing]))

    def behind(self, look, step):
        """Returns the look to which a step leads, or None if it is not right behind a look.

        While a fill or a sweep is due, the sights are those of the look, from which
        servers lead to no others; so only what is behind the visit is looked at.
        """
        editions, bits = look
        if step[0] == "edition":
            editions = (*editions, step[1])[-(self._lag + 1):]
        else:
            bits = self._sights.visited(step, bits)
        bits = self._sights.closed(editions, bits)
        return None if self._sights.is_misled(editions, bits) else (editions, bits)

    def behind_all(self, look, steps):
        """Returns the look to which some steps lead, or None if one is not right behind those ahead."""
        for step in steps:
            if look is not None:
                look = self.behind(look, step)
        return look

    def options(self, look, level, limit):
        """Returns the looks to which steps lead by a price within a limit, each with the step and that price."""
        found = []
        for step in self._steps:
            price = level + price_of([step], self._prices)
            behind = self.behind(look, step) if price <= limit else None
            if behind is not None:
                found.append((behind, step, price))
        return found

    def is_home(self, look, last):
        """Tells whether a look comes home to an edition."""
        editions, bits = look
        return all([edition == last for edition in editions]) and not self._sights.has_left(last, bits)

    def told(self, look):
        """Returns a coded look as the document has it."""
        return look[0], self._sights.sights_of(look[1])

    def coded(self, levels):
        """Returns levels with coded looks, or None if they are not levels of looks."""
        found = {}
        for look in levels:
            level = levels[look]
            if not is_look(look, self._width, len(self._first), self._lag) or not is_integer(level) or level < 0:
                return None
            code = (look[0], self._sights.set_of(look[1]))
            if self.told(code) != look:
                return None
            found[code] = level
        return found

    def reached(self, start, limit):
        """Returns the least prices of the looks behind one within a limit, and what is ahead of each."""
        levels = {start: 0}
        ahead = {start: None}
        queue = [(0, start)]
        while queue:
            level, look = heappop(queue)
            # A look stands there once more if it was found again by a lesser price.
            options = self.options(look, level, limit) if level == levels[look] else []
            for behind, step, price in options:
                if price < levels.get(behind, limit + 1):
                    levels[behind] = price
                    ahead[behind] = (look, step)
                    heappush(queue, (price, behind))
            if len(levels) > MOST_LOOKS:
                raise TooLarge(f"more than {MOST_LOOKS} looks")
        return levels, ahead

    def cheapest_from(self, start, last, limit):
        """Returns the steps that come home from a look by the least price, or None, and the levels."""
        levels, ahead = self.reached(start, limit)
        homes = [(levels[look], look) for look in levels if self.is_home(look, last)]
        bound, home = min(homes, default=(limit + 1, None))
        told = {self.told(look): levels[look] for look in levels if levels[look] < bound or look == start}
        return (None if home is None else steps_to(ahead, home)), told

    def is_way(self, start, last, way, limit):
        """Tells whether something is steps that come home from a look by a price within a limit."""
        many = len(self._first)
        if not isinstance(way, tuple) or not all([is_step(step, many) for step in way]):
            return False
        if price_of(way, self._prices) > limit:
            return False
        look = self.behind_all(start, way)
        return look is not None and self.is_home(look, last)

    def are_levels(self, start, last, levels, bound):
        """Tells whether levels show that nothing comes home from a look by a price below a bound."""
        codes = self.coded(levels)
        if codes is None or codes.get(start) != 0:
            return False
        for look in codes:
            if codes[look] < bound and self.is_home(look, last):
                return False
            for behind, _, price in self.options(look, codes[look], bound - 1):
                if codes.get(behind, bound) > price:
                    return False
        return True


def steps_to(ahead, look):
    """Returns the tuple of the steps that lead to a look."""
    found = []
    while ahead[look] is not None:
        look, step = ahead[look]
        found.append(step)
    return tuple(found[::-1])


class Cheapest:
    """The cheapest steps that come home, and levels that show that none are cheaper."""

    def __init__(self, way, levels):
        self.way = way
        self.levels = {look: levels[look] for look in levels}

    def __eq__(self, other):
        return isinstance(other, Cheapest) and self.way == other.way and self.levels == other.levels

    def shows(self, width, first, last, prices, limit, *, lag=1):
        """Tells whether the steps come home within the limit, and the levels show that none are cheaper."""
        check_road(width, first, last, prices, limit, lag)
        roads = Roads(width, first, prices, lag)
        start = roads.first_look()
        if not roads.is_way(start, last, self.way, limit):
            return False
        return roads.are_levels(start, last, self.levels, price_of(self.way, prices))


class NoWay:
    """Levels that show that no steps come home within a limit."""

    def __init__(self, levels):
        self.levels = {look: levels[look] for look in levels}

    def __eq__(self, other):
        return isinstance(other, NoWay) and self.levels == other.levels

    def shows(self, width, first, last, prices, limit, *, lag=1):
        """Tells whether the levels show that no steps come home within the limit."""
        check_road(width, first, last, prices, limit, lag)
        roads = Roads(width, first, prices, lag)
        return roads.are_levels(roads.first_look(), last, self.levels, limit + 1)


def ends_with(schedule, windows, last):
    """Tells whether all editions of the window at the end are the last one."""
    return all([schedule[number] == last for number in windows[-1]])


def judged_home(schedule, last, lag):
    """Returns a Right for all wishes if a schedule comes home.

    Otherwise, None if not all editions of the window at its end are the last one,
    and a Wrong if they are.
    """
    windows = all_windows(schedule, lag)
    found = judged(schedule, windows, WISHES)
    return found if ends_with(schedule, windows, last) else None


def look_of(schedule, *, lag=1):
    """Returns the look of a schedule."""
    check_schedule(schedule)
    check_lag(lag)
    windows = all_windows(schedule, lag)
    ended = [state[2:] for state in come_about(schedule, windows) if is_ended(schedule, state)]
    return tuple([schedule[number] for number in windows[-1]]), tuple(sorted(ended, key=place_of))


def comes_home(schedule, last, *, lag=1):
    """Tells whether a schedule comes home to an edition."""
    check_schedule(schedule)
    check_lag(lag)
    if not is_edition(last, len(schedule.first)):
        raise BadEdition("not an edition for as many indexes")
    return isinstance(judged_home(schedule, last, lag), Right)


def cheapest(width, first, last, prices, limit, *, lag=1):
    """Returns a Cheapest or a NoWay."""
    check_road(width, first, last, prices, limit, lag)
    roads = Roads(width, first, prices, lag)
    way, levels = roads.cheapest_from(roads.first_look(), last, limit)
    return NoWay(levels) if way is None else Cheapest(way, levels)


def least_price(width, first, last, prices, limit, *, lag=1):
    """Returns the price of the cheapest schedule that comes home within a limit, or None."""
    found = cheapest(width, first, last, prices, limit, lag=lag)
    return price_of(found.way, prices) if isinstance(found, Cheapest) else None
