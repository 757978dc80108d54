"""Schedules and weavings as texts, a line for each part of them."""

from editionlag.checks import check_lag
from editionlag.errors import BadText
from editionlag.schedules import WORDS, Schedule, all_windows, are_steps, check_schedule, is_first_edition, is_width
from editionlag.states import deeds_within, start_of, state_behind, woven

DIGITS = "0123456789"
MOST_DIGITS = 3
# The words with which the lines of a schedule begin, for the first lines and for all behind them.
HEADS = (("width",), ("first",))
KINDS = ("edition", "fill", "sweep")


def line_of(words):
    return " ".join([str(word) for word in words])


def text_of(lines):
    return "".join([line + "\n" for line in lines])


def lines_of(text):
    """Returns the list of the lines of a text, and what follows the last line feed."""
    if not isinstance(text, str):
        raise BadText(0)
    pieces = text.split("\n")
    return pieces[:-1], pieces[-1]


def number_of(word):
    """Returns the number that a word writes, or None if it does not write one."""
    if not 1 <= len(word) <= MOST_DIGITS or not all([letter in DIGITS for letter in word]):
        return None
    return None if word[0] == "0" and len(word) > 1 else int(word)


def part_of(line, kinds):
    """Returns the pair of the first word of a line, one of some kinds, and of what it tells, or None."""
    words = line.split(" ")
    kind, rest = words[0], words[1:]
    if kind not in kinds:
        return None
    if kind in ("first", "edition"):
        return (kind, tuple(rest)) if all([word in WORDS for word in rest]) else None
    number = number_of(rest[0]) if len(rest) == 1 else None
    return None if number is None else (kind, number)


def schedule_text(schedule):
    """Returns the text of a schedule."""
    check_schedule(schedule)
    lines = [line_of(["width", schedule.width]), line_of(["first"] + list(schedule.first))]
    for word, told in schedule.steps:
        lines.append(line_of([word] + (list(told) if word == "edition" else [told])))
    return text_of(lines)


def weaving_text(schedule, history, *, lag=1):
    """Returns the text of a weaving."""
    woven(schedule, history, lag=lag)
    return text_of([line_of(deed) for deed in history])


def read_schedule(text):
    """Returns the schedule that a text writes."""
    lines, rest = lines_of(text)
    parts = []
    for row, line in enumerate(lines):
        part = part_of(line, HEADS[row] if row < len(HEADS) else KINDS)
        if part is None:
            raise BadText(row)
        parts.append(part)
    if rest or len(parts) < len(HEADS):
        raise BadText(len(lines))
    width, first, steps = parts[0][1], parts[1][1], tuple(parts[2:])
    if not is_width(width) or not is_first_edition(first) or not are_steps(steps, len(first)):
        raise BadText(len(lines))
    return Schedule(width, first, steps)


def read_weaving(schedule, text, *, lag=1):
    """Returns the list of the deeds of a weaving that a text writes."""
    check_schedule(schedule)
    check_lag(lag)
    lines, rest = lines_of(text)
    windows = all_windows(schedule, lag)
    state = start_of(schedule)
    found = []
    for row, line in enumerate(lines):
        options = {line_of(deed): deed for deed in deeds_within(schedule, state, windows[state[0]])}
        if line not in options:
            raise BadText(row)
        found.append(options[line])
        state = state_behind(schedule, state, options[line])
    if rest:
        raise BadText(len(lines))
    return found
