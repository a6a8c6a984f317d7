"""Scripts, whose rows are executed in a house."""

from manymakers.checks import is_between
from manymakers.errors import ExecutionFailed, MakerError, ScriptError, TooLong
from manymakers.houses import House
from manymakers.notation import number_text, row_read, rows_of, wrong_word

MOST_ROWS = 60
MOST_DEPTH = 4
MOST_STEPS = 300
MOST_DIGITS = 2

# How many words a row has, by its first one.
ROW_WORDS = {"clock": 3, "restart": 2, "give": 2, "count": 1, "repeat": 2, "when": 3, "end": 1}
BLOCK_WORDS = ("repeat", "when")


def run_script(setup, text):
    """Return a house behind a script, and the list of the lines that it wrote."""
    rows, ends = _read(text)
    runner = Runner(setup, rows, ends)
    runner.execute_rows(0, len(rows))
    return runner.house, runner.output


def _read(text):
    """Return the list of the rows of a script, and a dict with the index of its end for that of each block's first row.

    A row is a tuple of its first word and its numbers.
    """
    rows = []
    ends = {}
    open_blocks = []
    for at, words in enumerate(rows_of(text)):
        if at >= MOST_ROWS or wrong_word(words, ROW_WORDS.get(words[0], 0), MOST_DIGITS) is not None:
            raise ScriptError(at)
        if words[0] in BLOCK_WORDS:
            open_blocks.append(at)
        if len(open_blocks) > MOST_DEPTH:
            raise ScriptError(at)
        if words[0] == "end":
            if not open_blocks:
                raise ScriptError(at)
            ends[open_blocks.pop()] = at
        rows.append(row_read(words))
    if open_blocks:
        raise ScriptError(len(rows))
    return rows, ends


class Runner:
    """The execution of a script: its house, what it wrote so far, and how many steps it took."""

    def __init__(self, setup, rows, ends):
        self.house = House(setup)
        self.output = []
        self._rows = rows
        self._ends = ends
        self._steps = 0

    def execute_rows(self, first, end):
        """Execute the rows from an index on, up to the one ahead of another index."""
        at = first
        while at < end:
            self._take_step()
            self._execute(at)
            # Where a block begins, the row behind its end is next.
            at = self._ends.get(at, at) + 1

    def _take_step(self):
        if self._steps == MOST_STEPS:
            raise TooLong("the script takes too many steps")
        self._steps += 1

    def _execute(self, at):
        row = self._rows[at]
        if row[0] == "repeat":
            for _ in range(row[1]):
                self._take_step()
                self.execute_rows(at + 1, self._ends[at])
        elif row[0] == "when":
            if self._clock_at(at, row[1]) == row[2]:
                self.execute_rows(at + 1, self._ends[at])
        elif row[0] == "count":
            self.output.append(str(len(self.house.numbers_given)))
        else:
            self._let_happen(at, row)

    def _clock_at(self, at, maker):
        """Return the reading of a maker's clock, of which the row at an index asks."""
        standing = self.house.standing_now
        if not is_between(maker, 0, len(standing) - 1):
            raise ExecutionFailed(at)
        return standing[maker][0]

    def _let_happen(self, at, event):
        try:
            results = self.house.apply_all([event])
        except MakerError:
            raise ExecutionFailed(at) from None
        if event[0] == "give":
            self.output.append(number_text(results[0]))
