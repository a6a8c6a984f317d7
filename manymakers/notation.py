"""Histories, numbers and standings as texts."""

from manymakers.checks import is_number
from manymakers.errors import InvalidLine, InvalidNumber, InvalidStanding
from manymakers.events import EVENT_PARTS, NO_READING, is_standing, run

DIGITS = "0123456789"

# How many digits a number in the text of a history has.
HISTORY_DIGITS = 1


def history_text(events):
    """Return a text with a row for each event."""
    return "\n".join([" ".join([str(part) for part in event]) for event in events])


def read_history(setup, text):
    """Return the history of a text, which must be possible from the beginning on."""
    events = []
    for at, words in enumerate(rows_of(text)):
        wrong = wrong_word(words, EVENT_PARTS.get(words[0], 0), HISTORY_DIGITS)
        if wrong is not None:
            raise InvalidLine(at, wrong)
        events.append(row_read(words))
    run(setup, events)
    return events


def number_text(number):
    """Return a number as a text, "none" for None."""
    if number is None:
        return "none"
    if not is_number(number):
        raise InvalidNumber("a number is a tuple of a reading, a mark and a counter")
    return ".".join([str(part) for part in number])


def standing_text(setup, standing):
    """Return a text with a row for each maker."""
    if not is_standing(setup, standing):
        raise InvalidStanding("the standing does not fit the set-up")
    return "\n".join([" ".join([_part_text(part) for part in state]) for state in standing])


def rows_of(text):
    """Return a list of the rows of a text, each the list of its words; the empty text has no rows."""
    if text == "":
        return []
    return [row.split(" ") for row in text.split("\n")]


def wrong_word(words, many, most_digits):
    """Return the index of the first word of a row that is wrong, superfluous or missing, None if all is well.

    A row has so many words, 0 if its first one is unknown; all but the first one are numbers of so many digits at most.
    """
    for at, word in enumerate(words):
        if at >= many or (at > 0 and not _is_number_word(word, most_digits)):
            return at
    return len(words) if len(words) < many else None


def row_read(words):
    """Return a tuple of the first word of a row and the numbers behind it."""
    return (words[0], *[int(word) for word in words[1:]])


def _is_number_word(word, most_digits):
    if not 1 <= len(word) <= most_digits or not all([sign in DIGITS for sign in word]):
        return False
    return len(word) == 1 or word[0] != "0"


def _part_text(part):
    return "-" if part == NO_READING else str(part)
