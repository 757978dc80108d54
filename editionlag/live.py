"""Tables with a few rows, on which deeds are done and taken back."""

from editionlag.checks import check_lag, is_number
from editionlag.errors import BadDeed, BadDeeds, BadIndex, BadRows, BadValue, NotPublic, NothingDone
from editionlag.schedules import all_windows, check_schedule
from editionlag.states import deeds_within, is_among, start_of, state_behind, wishes_broken

MOST_ROWS = 3


class Mark:
    """What a table was when a trial was entered, and the mark of the trial around it, if any."""

    def __init__(self, around, journal, states):
        self._around = around
        self._journal = journal
        self._states = states


class LiveTable:
    """A table whose rows are all in a state of one schedule; a with-block over it is a trial."""

    def __init__(self, schedule, rows, *, lag=1):
        check_schedule(schedule)
        check_lag(lag)
        if not is_number(rows, MOST_ROWS) or rows == 0:
            raise BadRows(f"not an integer from 1 to {MOST_ROWS}")
        self._schedule = schedule
        self._lag = lag
        self._windows = all_windows(schedule, lag)
        self._journal = []
        # The states of all rows at first, and behind each deed of the journal.
        self._states = [tuple([start_of(schedule) for _ in range(rows)])]
        self._mark = None

    @property
    def now(self):
        return list(self._states[-1])

    @property
    def journal(self):
        return list(self._journal)

    def __len__(self):
        return len(self._journal)

    def __enter__(self):
        # In the trial the table goes on with copies: to take its own lists again is all that leaving takes.
        self._mark = Mark(self._mark, self._journal, self._states)
        self._journal = list(self._journal)
        self._states = list(self._states)
        return self

    def __exit__(self, kind, value, trace):
        self._journal = self._mark._journal
        self._states = self._mark._states
        self._mark = self._mark._around

    def can(self):
        """Returns the list of all deeds that can be done, in order."""
        found = []
        begun = self._begun()
        if begun < len(self._schedule) and not any([due for _, due, _, _ in self._states[-1]]):
            found.append(("begin",))
        options = [deeds_within(self._schedule, state, self._windows[begun]) for state in self._states[-1]]
        for word in ("visit", "cut", "put"):
            for row, told in enumerate(options):
                found.extend([(word, row) + deed[1:] for deed in told if deed[0] == word])
        return found

    def do(self, deed):
        """Does a deed, and returns the list of the states of all rows."""
        if not is_among(deed, self.can()):
            raise BadDeed("not a deed that can be done")
        states = self.now
        if deed[0] == "begin":
            states = [state_behind(self._schedule, state, deed) for state in states]
        else:
            row = deed[1]
            states[row] = state_behind(self._schedule, states[row], deed[:1] + deed[2:])
        self._journal.append(deed)
        self._states.append(tuple(states))
        return states

    def rows_by(self, index, value):
        """Returns the ascending list of the rows that a server finds by a value."""
        if not is_number(index, len(self._schedule.first) - 1):
            raise BadIndex("not the number of an index")
        if not is_number(value, self._schedule.width - 1):
            raise BadValue("not a value")
        words = [self._schedule[n][index] for n in self._windows[self._begun()]]
        if "public" not in words:
            raise NotPublic("the index is public in no edition of the window")
        return [row for row, (_, _, _, entries) in enumerate(self._states[-1]) if value in entries[index]]

    def broken(self):
        """Returns the ascending list of all pairs of a row and a wish that its state breaks."""
        numbers = self._windows[self._begun()]
        told = [wishes_broken(self._schedule, state, numbers) for state in self._states[-1]]
        return [(row, wish) for row, wishes in enumerate(told) for wish in wishes]

    def undo(self):
        """Takes back the last deed, and returns it."""
        kept = 0 if self._mark is None else len(self._mark._journal)
        if len(self._journal) == kept:
            raise NothingDone("there is no deed, or none in the trial")
        self._states.pop()
        return self._journal.pop()

    def branch(self):
        """Returns an independent table on which everything is the same."""
        rows = len(self._states[0])
        other = LiveTable(self._schedule, rows, lag=self._lag)
        other._journal = list(self._journal)
        other._states = list(self._states)
        return other

    def trial(self):
        """Returns what a with-block is over at whose end the table is as at its beginning: the table."""
        return self

    def attempt(self, work):
        """Calls a function with the table in a trial, and returns what it returns."""
        with self.trial() as table:
            return work(table)

    def tried(self, history):
        """Does deeds in a trial, and returns the list of what do returns for each."""
        if not isinstance(history, (list, tuple)):
            raise BadDeeds(None)
        found = []
        with self.trial():
            for index, deed in enumerate(history):
                if not is_among(deed, self.can()):
                    raise BadDeeds(index)
                found.append(self.do(deed))
        return found

    def _begun(self):
        return self._states[-1][0][0]
