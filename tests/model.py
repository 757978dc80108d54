"""The document's words on windows, states, deeds and wishes, tried out one by one.

It is slow and knows nothing of the package: entries are frozensets, and every
deed that can be thought of is tried in every state.
"""

from itertools import combinations, product


def window_of(first, steps, begun, lag):
    so_far = [first] + [told for word, told in steps[:begun] if word == "edition"]
    return [number for number in range(len(so_far)) if number >= len(so_far) - (lag + 1)]


def editions_of(first, steps):
    return [first] + [told for word, told in steps if word == "edition"]


def thinkable_deeds(width, steps):
    numbers = range(len(steps) + 1)
    found = [("begin",), ("visit",)]
    found += [("cut", number) for number in numbers]
    return found + [("put", number, value) for number in numbers for value in range(width)]


def thinkable_states(width, first, steps):
    sets = [frozenset(some) for size in range(width + 1) for some in combinations(range(width), size)]
    return [
        (begun, due, value, entries)
        for begun in range(len(steps) + 1)
        for due in (False, True)
        if not due or (begun and steps[begun - 1][0] in ("fill", "sweep"))
        for value in [None, *range(width)]
        for entries in product(sets, repeat=len(first))
    ]


def tried(first, steps, state, deed, window):
    """The state behind a deed, or None if it cannot be done."""
    begun, due, value, entries = state
    if deed[0] == "begin":
        if due or begun == len(steps):
            return None
        return (begun + 1, steps[begun][0] in ("fill", "sweep"), value, entries)
    if deed[0] == "visit":
        if not due:
            return None
        word, index = steps[begun - 1]
        here = frozenset() if word == "sweep" else entries[index] | ({value} - {None})
        return (begun, False, value, entries[:index] + (here,) + entries[index + 1:])
    if deed[1] not in window:
        return None
    if deed[0] == "cut" and value is None or deed[0] == "put" and deed[2] == value:
        return None
    edition = editions_of(first, steps)[deed[1]]
    behind = []
    for word, held in zip(edition, entries):
        if word in ("delete", "write", "public"):
            held = held - {value}
        if deed[0] == "put" and word in ("write", "public"):
            held = held | {deed[2]}
        behind.append(held)
    return (begun, due, deed[2] if deed[0] == "put" else None, tuple(behind))


def wishes_broken(first, steps, state, window):
    begun, due, value, entries = state
    editions = [editions_of(first, steps)[number] for number in window]
    found = set()
    for index, held in enumerate(entries):
        absent = all(edition[index] == "absent" for edition in editions)
        public = any(edition[index] == "public" for edition in editions)
        if begun == len(steps) and not due and absent and held:
            found.add("left")
        if public and value is not None and value not in held:
            found.add("missed")
        if public and any(entry != value for entry in held):
            found.add("stray")
    return sorted(found)


def as_told(state):
    """A state as the package gives it."""
    return state[:3] + (tuple(tuple(sorted(held)) for held in state[3]),)


def states_that_come_about(width, first, steps, lag):
    """By rounds over all states so far, until a round finds nothing."""
    found = {(0, False, None, tuple(frozenset() for _ in first))}
    while True:
        more = set(found)
        for state in found:
            window = window_of(first, steps, state[0], lag)
            for deed in thinkable_deeds(width, steps):
                more.add(tried(first, steps, state, deed, window))
        more.discard(None)
        if len(more) == len(found):
            return found
        found = more
