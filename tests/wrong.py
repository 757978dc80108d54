"""Wrong arguments, and what tells which error a call raises."""

from editionlag.schedules import Schedule


class Agreeable:
    """Equal to everything, so that only a check of its kind refuses it."""

    def __eq__(self, other):
        return True

    __hash__ = None


SHORT = Schedule(2, ("absent",), (("edition", ("write",)), ("fill", 0), ("edition", ("public",))))

# What is never right, wherever it stands.
STRANGE = (
    True, False, "", "write", b"write", -1, 10 ** 30, [], {}, set(), {1: 2}, [[]], ([],), ((),), object(),
    len, int, Schedule, Agreeable(), lambda: None,
)
NO_SCHEDULES = STRANGE + (None, 1, (1, ("absent",), ()), [1, ("absent",), ()])
NO_WISHES = STRANGE + (None, 0, "Left", "left ", "leftmissed", "", b"left", ("left",), ["left"], ("left", "missed"), SHORT)
NO_LAGS = STRANGE + (None, 5, "1", (1,), [1], SHORT)

# It has more than 1000 states with any lag.
HUGE = Schedule(3, ("public", "write"), (
    ("edition", ("absent", "absent")), ("edition", ("write", "absent")), ("edition", ("absent", "write")),
    ("fill", 0), ("fill", 1), ("sweep", 0), ("fill", 0), ("fill", 1), ("edition", ("delete", "absent")),
    ("edition", ("absent", "delete")), ("edition", ("absent", "absent")), ("sweep", 1),
))


def told(error):
    """What an error tells, besides its class."""
    return [getattr(error, name) for name in ("part", "index", "row") if hasattr(error, name)]


def refused(case, call, error, *more):
    """Asserts that a call raises exactly this error, with these attributes."""
    try:
        found = call()
    except Exception as caught:
        case.assertIs(caught.__class__, error, repr(caught))
        case.assertEqual(told(caught), list(more))
        return
    case.fail(f"{error.__name__} was not raised: {found!r}")


def check_door(case, door, rights, wrongs, keyword=None):
    """Gives a door one wrong argument, then two at once.

    rights are the right arguments, in order; wrongs are, in the order in which
    errors are told, tuples of the place of an argument (or the keyword), wrong
    values, the error, and its attributes.
    """

    def call(changes):
        given = [changes.get(place, right) for place, right in enumerate(rights)]
        if keyword in changes:
            return door(*given, **{keyword: changes[keyword]})
        return door(*given)

    call({})
    for at, (place, values, error, *more) in enumerate(wrongs):
        for value in values:
            with case.subTest(place=place, value=value):
                refused(case, lambda: call({place: value}), error, *more)
        for later, others, *_ in wrongs[at + 1:]:
            if later == place:
                continue
            for value, other in [(values[0], other) for other in others] + [(value, others[0]) for value in values]:
                with case.subTest(place=place, value=value, later=later, other=other):
                    refused(case, lambda: call({place: value, later: other}), error, *more)
