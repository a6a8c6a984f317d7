"""Numbers packed into one integer, and such integers unpacked."""

from manymakers.checks import is_between, is_number
from manymakers.errors import InvalidNumber, InvalidValue, InvalidWidth

MOST_WIDTH = 20
LAST_READING = 10 ** 15


def packed(number, mark_width, counter_width):
    """Return the value of a number whose mark and counter have so many bits."""
    _check_widths(mark_width, counter_width)
    if not is_number(number):
        raise InvalidNumber("a number is a tuple of a reading, a mark and a counter")
    reading, mark, counter = number
    if reading > LAST_READING or mark >= 1 << mark_width or counter >= 1 << counter_width:
        raise InvalidNumber("a part of the number has no room")
    return (((reading << mark_width) + mark) << counter_width) + counter


def unpacked(value, mark_width, counter_width):
    """Return the number of a value in which the mark and the counter have so many bits."""
    _check_widths(mark_width, counter_width)
    if not is_between(value, 0, ((LAST_READING + 1) << (mark_width + counter_width)) - 1):
        raise InvalidValue("no number has this value")
    above, counter = divmod(value, 1 << counter_width)
    reading, mark = divmod(above, 1 << mark_width)
    return (reading, mark, counter)


def _check_widths(mark_width, counter_width):
    for width in (mark_width, counter_width):
        if not is_between(width, 0, MOST_WIDTH):
            raise InvalidWidth("the width is not within its bounds")
