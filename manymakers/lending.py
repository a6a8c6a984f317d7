"""Marks that are lent to makers for some time."""

from manymakers.checks import is_between
from manymakers.errors import InvalidAsks, InvalidCount, InvalidTime

MOST_MARKS = 9
MOST_LENGTH = 10 ** 9
MOST_ASKS = 40
LAST_ASK = 10 ** 15
LAST_TIME = 2 * 10 ** 15
LAST_MAKER = 99


def lent(count, length, asks):
    """Return the list of the marks that the asks got, None for none."""
    _check_count(count)
    _check_length(length)
    _check_asks(asks)
    marks, _ = _lend(count, length, asks)
    return marks


def holders(count, length, asks, time):
    """Return the ascending list of tuples (mark, maker) of all marks that are lent at a time."""
    _check_count(count)
    _check_length(length)
    _check_asks(asks)
    if not is_between(time, 0, LAST_TIME):
        raise InvalidTime("the time is not within its bounds")
    _, held = _lend(count, length, [ask for ask in asks if ask[0] <= time])
    return sorted([(mark, maker) for maker, (mark, end) in held.items() if end > time])


def fewest_marks(length, asks):
    """Return the least count of marks by which no ask gets none."""
    _check_length(length)
    _check_asks(asks)
    # With a mark for each ask none gets none, and a mark is taken only while all below it are lent.
    marks, _ = _lend(len(asks), length, asks)
    return max([mark + 1 for mark in marks], default=0)


def shortest_length(count, asks):
    """Return the least length by which some ask gets none, None if there is none within the bounds."""
    _check_count(count)
    _check_asks(asks)
    times = [time for time, maker in asks]
    # Lending changes only at lengths that just outlast the time between two asks.
    for length in sorted({late - early + 1 for late in times for early in times if late >= early}):
        if length <= MOST_LENGTH and None in _lend(count, length, asks)[0]:
            return length
    return None


def _check_count(count):
    if not is_between(count, 1, MOST_MARKS):
        raise InvalidCount("the count of marks is not within its bounds")


def _check_length(length):
    if not is_between(length, 1, MOST_LENGTH):
        raise InvalidCount("the length is not within its bounds")


def _check_asks(asks):
    earliest = 0
    for at, ask in enumerate(asks):
        if at >= MOST_ASKS or not _is_ask(ask, earliest):
            raise InvalidAsks(at)
        earliest = ask[0]


def _is_ask(ask, earliest):
    if not isinstance(ask, tuple) or len(ask) != 2:
        return False
    return is_between(ask[0], earliest, LAST_ASK) and is_between(ask[1], 0, LAST_MAKER)


def _lend(count, length, asks):
    """Return what lent returns, and a dict with each maker's last mark and the time at which it is given back."""
    held = {}
    marks = []
    for time, maker in asks:
        mark = _mark_for(held, count, time, maker)
        if mark is not None:
            held[maker] = (mark, time + length)
        marks.append(mark)
    return marks, held


def _mark_for(held, count, time, maker):
    if maker in held and held[maker][1] > time:
        return held[maker][0]
    taken = [mark for mark, end in held.values() if end > time]
    free = [mark for mark in range(count) if mark not in taken]
    return free[0] if free else None
