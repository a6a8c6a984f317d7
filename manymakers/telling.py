"""What numbers, and logs of what makers gave, tell of the makers."""

from manymakers.checks import is_between, is_number
from manymakers.errors import InvalidLog
from manymakers.events import begin
from manymakers.ways import all_steps, check_series, number_told, steps_from, told_way

# How many entries a log can have.
MOST_IN_LOG = 8


def ends_behind(setup, numbers):
    """Return the ascending list of the standings in which the makers can be just when the last number was given."""
    check_series(numbers)
    tables = all_steps(setup)
    ends = [begin(setup)]
    for number in numbers:
        ends = _ends_telling(tables, ends, number_told, number)
    return ends


def givers(setup, numbers):
    """Return a list with the ascending tuple of all makers that can have given each of some numbers."""
    check_series(numbers)
    rows = _rows_of_makers(setup, numbers)
    return [tuple(sorted(set([row[at] for row in rows]))) for at in range(len(numbers))]


def log_way(setup, log):
    """Return the shortest history with just the gives of a log, None if there is none."""
    _check_log(setup, log)
    return told_way(setup, log, _entry_told)


def first_wrong(setup, log):
    """Return the index of the first entry up to which there is no history for a log, None if there is none."""
    _check_log(setup, log)
    tables = all_steps(setup)
    ends = {maker: [begin(setup)] for maker in tables}
    for at, entry in enumerate(log):
        # No maker touches another one, so a log can be if each maker alone can give what it tells of it.
        maker = entry[0]
        ends[maker] = _ends_telling({maker: tables[maker]}, ends[maker], _entry_told, entry)
        if not ends[maker]:
            return at
    return None


def told_next(tables, standings, tell):
    """Return a list of all that can be told next behind some standings: (what is told, maker, standing behind it).

    The tables are those of steps_from, and tell(event, number) is as for told_way.
    """
    reached = {standing: True for standing in standings}
    waiting = list(standings)
    found = []
    while waiting:
        standing = waiting.pop()
        for event, behind, number in steps_from(tables, standing):
            told = tell(event, number)
            if told is not None:
                found.append((told, event[1], behind))
            elif behind not in reached:
                reached[behind] = True
                waiting.append(behind)
    return found


def _entry_told(event, number):
    """Return what a log tells of a step, None if it is not in it."""
    return (event[1], number) if event[0] == "give" else None


def _ends_telling(tables, standings, tell, wanted):
    """Return the ascending list of the standings just when this is told next, behind some standings."""
    found = told_next(tables, standings, tell)
    return sorted(set([behind for told, _, behind in found if told == wanted]))


def _rows_of_makers(setup, numbers):
    """Return a list of all tuples of makers that can have given some numbers, a maker for each number."""
    tables = all_steps(setup)
    rows = [((), {maker: [begin(setup)] for maker in tables})]
    for number in numbers:
        further = []
        for row, ends in rows:
            for maker, table in tables.items():
                # No maker touches another one, so a row can be if each maker alone can give its numbers of it.
                own_ends = _ends_telling({maker: table}, ends[maker], number_told, number)
                if own_ends:
                    further.append((row + (maker,), {**ends, maker: own_ends}))
        rows = further
    return [row for row, ends in rows]


def _check_log(setup, log):
    for at, entry in enumerate(log):
        if at >= MOST_IN_LOG or not _is_entry(setup, entry):
            raise InvalidLog(at)


def _is_entry(setup, entry):
    if not isinstance(entry, tuple) or len(entry) != 2:
        return False
    maker, number = entry
    return is_between(maker, 0, len(setup) - 1) and (number is None or is_number(number))
