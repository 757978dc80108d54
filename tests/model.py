"""The document's words on windows, states, deeds, wishes, looks and plans, tried out one by one.

It is slow and knows nothing of the package: entries are frozensets, and every
deed that can be thought of is tried in every state.
"""

from functools import lru_cache
from itertools import combinations, product


def window_of(first, steps, begun, lag):
    """The window; in place of a lag may stand ("straggler", lag, number) or ("waits", waits)."""
    so_far = [first] + [told for word, told in steps[:begun] if word == "edition"]
    many = len(so_far)
    if isinstance(lag, int):
        return [number for number in range(many) if number >= many - (lag + 1)]
    if lag[0] == "straggler":
        return [number for number in range(many) if number >= many - (lag[1] + 1) or number == lag[2]]
    wait = 0 if many == 1 else lag[1][many - 2]
    return [number for number in range(many) if number >= many - (wait + 1)]


def editions_of(first, steps):
    return [first] + [told for word, told in steps if word == "edition"]


def thinkable_deeds(width, steps):
    numbers = range(len(steps) + 1)
    found = [("begin",), ("visit",)]
    found += [("cut", number) for number in numbers]
    return found + [("put", number, value) for number in numbers for value in range(width)]


def thinkable_states(width, first, steps):
    sets = [frozenset(some) for size in range(width + 1) for some in combinations(range(width), size)]
    return [
        (begun, due, value, entries)
        for begun in range(len(steps) + 1)
        for due in (False, True)
        if not due or (begun and steps[begun - 1][0] in ("fill", "sweep"))
        for value in [None, *range(width)]
        for entries in product(sets, repeat=len(first))
    ]


def tried(first, steps, state, deed, window):
    """The state behind a deed, or None if it cannot be done."""
    begun, due, value, entries = state
    if deed[0] == "begin":
        if due or begun == len(steps):
            return None
        return (begun + 1, steps[begun][0] in ("fill", "sweep"), value, entries)
    if deed[0] == "visit":
        if not due:
            return None
        word, index = steps[begun - 1]
        here = frozenset() if word == "sweep" else entries[index] | ({value} - {None})
        return (begun, False, value, entries[:index] + (here,) + entries[index + 1:])
    if deed[1] not in window:
        return None
    if deed[0] == "cut" and value is None or deed[0] == "put" and deed[2] == value:
        return None
    edition = editions_of(first, steps)[deed[1]]
    behind = []
    for word, held in zip(edition, entries):
        if word in ("delete", "write", "public"):
            held = held - {value}
        if deed[0] == "put" and word in ("write", "public"):
            held = held | {deed[2]}
        behind.append(held)
    return (begun, due, deed[2] if deed[0] == "put" else None, tuple(behind))


def wishes_broken(first, steps, state, window):
    begun, due, value, entries = state
    editions = [editions_of(first, steps)[number] for number in window]
    found = set()
    for index, held in enumerate(entries):
        absent = all(edition[index] == "absent" for edition in editions)
        public = any(edition[index] == "public" for edition in editions)
        if begun == len(steps) and not due and absent and held:
            found.add("left")
        if public and value is not None and value not in held:
            found.add("missed")
        if public and any(entry != value for entry in held):
            found.add("stray")
    return sorted(found)


def as_told(state):
    """A state as the package gives it."""
    return state[:3] + (tuple(tuple(sorted(held)) for held in state[3]),)


def states_that_come_about(width, first, steps, lag):
    """By rounds over all states so far, until a round finds nothing."""
    found = {(0, False, None, tuple(frozenset() for _ in first))}
    while True:
        more = set(found)
        for state in found:
            window = window_of(first, steps, state[0], lag)
            for deed in thinkable_deeds(width, steps):
                more.add(tried(first, steps, state, deed, window))
        more.discard(None)
        if len(more) == len(found):
            return found
        found = more


@lru_cache(maxsize=None)
def deeds_to(width, first, steps, lag):
    """The least number of deeds to each state that comes about, by one layer of states behind the other."""
    start = (0, False, None, tuple(frozenset() for _ in first))
    found, layer, many = {}, {start}, 0
    while layer:
        found.update({state: many for state in layer})
        many += 1
        layer = {
            tried(first, steps, state, deed, window_of(first, steps, state[0], lag))
            for state in layer
            for deed in thinkable_deeds(width, steps)
        } - set(found) - {None}
    return found


def soonest(width, first, steps, lag, wish):
    """The least number of deeds to a state that breaks a wish, or None."""
    found = deeds_to(width, first, steps, lag)
    return min([
        found[state] for state in found
        if wish in wishes_broken(first, steps, state, window_of(first, steps, state[0], lag))
    ], default=None)


def is_over(steps, state):
    return state[0] == len(steps) and not state[1]


def weaving(width, first, steps, lag, deeds, wishes, at_end=False):
    """Whether deeds can be done and lead to a state (where all is over) that breaks one of the wishes."""
    state = (0, False, None, tuple(frozenset() for _ in first))
    for deed in deeds:
        if deed not in thinkable_deeds(width, steps):
            return False
        state = tried(first, steps, state, deed, window_of(first, steps, state[0], lag))
        if state is None:
            return False
    if at_end and not is_over(steps, state):
        return False
    return bool(set(wishes) & set(wishes_broken(first, steps, state, window_of(first, steps, state[0], lag))))


def closed(width, first, steps, lag, states, wishes, at_end=False):
    """Whether told states are a list as in a Right for all of the wishes (asked for where all is over)."""
    held = {state[:3] + (tuple(map(frozenset, state[3])),) for state in states}
    if (0, False, None, tuple(frozenset() for _ in first)) not in held:
        return False
    for state in held:
        window = window_of(first, steps, state[0], lag)
        behind = {tried(first, steps, state, deed, window) for deed in thinkable_deeds(width, steps)}
        if behind - {None} - held:
            return False
        asked = is_over(steps, state) or not at_end
        if asked and set(wishes) & set(wishes_broken(first, steps, state, window)):
            return False
    return True


def sorted_sights(sights):
    """Told pairs of a row and its entries, in order: None before numbers."""
    told = {(value, tuple(tuple(sorted(held)) for held in entries)) for value, entries in sights}
    return tuple(sorted(told, key=lambda sight: (sight[0] is not None, sight[0] or 0, sight[1])))


def look_of(width, first, steps, lag):
    editions = editions_of(first, steps)
    sights = {
        state[2:] for state in states_that_come_about(width, first, steps, lag)
        if state[0] == len(steps) and not state[1]
    }
    return tuple(editions[number] for number in window_of(first, steps, len(steps), lag)), sorted_sights(sights)


def is_right(width, first, steps, lag):
    return all(soonest(width, first, steps, lag, wish) is None for wish in ("missed", "stray"))


def comes_home(width, first, steps, lag, last):
    editions = editions_of(first, steps)
    ends = all(editions[number] == last for number in window_of(first, steps, len(steps), lag))
    return ends and all(soonest(width, first, steps, lag, wish) is None for wish in ("left", "missed", "stray"))


def all_steps(many):
    editions = product(("absent", "delete", "public", "write"), repeat=many)
    return [("edition", edition) for edition in editions] + [
        (word, index) for word in ("fill", "sweep") for index in range(many)
    ]


def price_of(steps, prices):
    return sum({"edition": prices[0], "fill": prices[1], "sweep": prices[2]}[step[0]] for step in steps)


def right_schedules(width, first, lag, most, begun=()):
    """The steps of all right schedules of at most so many steps behind those that have begun, one by one."""
    found = layer = [begun]
    for _ in range(most):
        longer = [steps + (step,) for steps in layer for step in all_steps(len(first))]
        layer = [steps for steps in longer if is_right(width, first, steps, lag)]
        found = found + layer
    return found


def sights_behind(width, editions, sights):
    """The pairs to which servers of some editions lead from some, and these."""
    found = set(sights)
    waiting = list(found)
    while waiting:
        value, entries = waiting.pop()
        for edition, new in product(editions, [None, *range(width)]):
            if new == value:
                continue
            behind = []
            for word, held in zip(edition, entries):
                held = held if word == "absent" else held - {value}
                behind.append(held | {new} - {None} if word in ("write", "public") else held)
            sight = (new, tuple(behind))
            if sight not in found:
                found.add(sight)
                waiting.append(sight)
    return found


def look_behind(width, look, step, lag):
    """The look to which a step leads from another one, or None if it is not right behind it."""
    editions, told = look
    sights = {(value, tuple(map(frozenset, entries))) for value, entries in told}
    if step[0] == "edition":
        editions = (editions + (step[1],))[-lag - 1:]
    else:
        come = {"fill": lambda value, held: held | {value} - {None}, "sweep": lambda value, held: frozenset()}[step[0]]
        at = step[1]
        sights = {(value, held[:at] + (come(value, held[at]),) + held[at + 1:]) for value, held in sights}
    sights = sights_behind(width, editions, sights)
    for index in range(len(editions[0])):
        if any(edition[index] == "public" for edition in editions):
            if any(entries[index] != {value} - {None} for value, entries in sights):
                return None
    return editions, sorted_sights(sights)


def look_is_home(look, last):
    editions, sights = look
    absent = [index for index, word in enumerate(last) if word == "absent"]
    return set(editions) == {last} and not any(entries[index] for _, entries in sights for index in absent)


def looks_within(width, look, prices, limit, lag):
    """The least prices of the looks behind one, within a limit: by one price after the other."""
    found = {}
    waiting = {price: set() for price in range(limit + 1)}
    waiting[0].add(look)
    for price in waiting:
        for here in waiting[price] - set(found):
            found[here] = price
            for step in all_steps(len(look[0][0])):
                reach = price + price_of([step], prices)
                behind = look_behind(width, here, step, lag) if reach <= limit else None
                if behind is not None:
                    waiting[reach].add(behind)
    return found


def levels_hold(width, first, last, prices, lag, levels, bound, begun=()):
    """Whether levels are as in a Cheapest whose way has the price bound, or in a NoWay of the limit bound - 1.

    Likewise for ways back from the steps that have begun.
    """
    if levels.get(look_of(width, first, begun, lag)) != 0 or min(levels.values()) < 0:
        return False
    for look in levels:
        if levels[look] < bound and look_is_home(look, last):
            return False
        for step in all_steps(len(first)):
            reach = levels[look] + price_of([step], prices)
            behind = look_behind(width, look, step, lag) if reach < bound else None
            if behind is not None and levels.get(behind, reach + 1) > reach:
                return False
    return True


def woven_steps(one, other, plan):
    """The steps of the schedule of a plan, or None if it is no plan; both are pairs of a first edition and steps."""
    left = [list(one[1]), list(other[1])]
    words = [one[0][0], other[0][0]]
    found = []
    for turn in plan:
        turns = {"one": [0], "other": [1], "both": [0, 1]}[turn]
        if not all(left[at] for at in turns):
            return None
        taken = [left[at].pop(0) for at in turns]
        kinds = {step[0] for step in taken}
        if turn == "both" and kinds != {"edition"}:
            return None
        if kinds == {"edition"}:
            for at, step in zip(turns, taken):
                words[at] = step[1][0]
            found.append(("edition", tuple(words)))
        else:
            found.append((taken[0][0], turns[0]))
    return None if any(left) else tuple(found)


@lru_cache(maxsize=None)
def plans(one, other):
    """All tuples of words that are plans: products come by their lengths, then as tuples."""
    most = len(one[1]) + len(other[1])
    thinkable = [plan for size in range(most + 1) for plan in product(("both", "one", "other"), repeat=size)]
    return [plan for plan in thinkable if woven_steps(one, other, plan) is not None]


def repairs(many):
    """All tuples of at most two fills and sweeps, in order."""
    steps = [step for step in all_steps(many) if step[0] != "edition"]
    return [told for size in range(3) for told in product(sorted(steps), repeat=size)]


def is_enough(width, first, steps, lag):
    """Whether, with its repair, a schedule breaks neither wish of looking where all is over."""
    return not any(
        {"missed", "stray"} & set(wishes_broken(first, steps, state, window_of(first, steps, len(steps), lag)))
        for state in deeds_to(width, first, steps, lag) if is_over(steps, state)
    )
