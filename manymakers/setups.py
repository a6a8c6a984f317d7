"""Plans and set-ups: what makers do, and the bounds in which they work."""

from manymakers.checks import is_between
from manymakers.errors import InvalidPlan, InvalidSetup

BACK_WORDS = ("trust", "hold", "refuse")
FULL_WORDS = ("wrap", "borrow", "refuse")
RESTART_WORDS = ("forget", "saved", "wait")


class Plan:
    """What a maker does when its clock ran back, when its counter is full, and behind a restart."""

    def __init__(self, on_back, on_full, on_restart):
        for part, word, words in (
            ("on_back", on_back, BACK_WORDS),
            ("on_full", on_full, FULL_WORDS),
            ("on_restart", on_restart, RESTART_WORDS),
        ):
            if not _is_word(word, words):
                raise InvalidPlan(part)
        self._on_back = on_back
        self._on_full = on_full
        self._on_restart = on_restart

    @property
    def on_back(self):
        """What the maker does when its clock has run back."""
        return self._on_back

    @property
    def on_full(self):
        """What the maker does when its counter is full."""
        return self._on_full

    @property
    def on_restart(self):
        """What the maker does behind a restart."""
        return self._on_restart

    def __eq__(self, other):
        return (
            isinstance(other, Plan)
            and self._on_back == other._on_back
            and self._on_full == other._on_full
            and self._on_restart == other._on_restart
        )


class Setup:
    """The makers' plans and marks, and the bounds of their clocks and counters."""

    def __init__(self, plans, marks, top, limit, back, ahead):
        if not _are_plans(plans):
            raise InvalidSetup("plans")
        if not _are_marks(marks, len(plans)):
            raise InvalidSetup("marks")
        for part, value, low, high in (
            ("top", top, 1, 2),
            ("limit", limit, 0, 1),
            ("back", back, 0, 2),
            ("ahead", ahead, 1, 2),
        ):
            if not is_between(value, low, high):
                raise InvalidSetup(part)
        self._plans = plans
        self._marks = marks
        self._top = top
        self._limit = limit
        self._back = back
        self._ahead = ahead

    @property
    def plans(self):
        """The tuple of the makers' plans."""
        return self._plans

    @property
    def marks(self):
        """The tuple of the makers' marks."""
        return self._marks

    @property
    def top(self):
        """The greatest reading of all clocks."""
        return self._top

    @property
    def limit(self):
        """The greatest counter."""
        return self._limit

    @property
    def back(self):
        """How far a clock can jump back at once."""
        return self._back

    @property
    def ahead(self):
        """How far a clock can jump ahead at once."""
        return self._ahead

    def __len__(self):
        return len(self._plans)

    def __eq__(self, other):
        return (
            isinstance(other, Setup)
            and self._plans == other._plans
            and self._marks == other._marks
            and self._top == other._top
            and self._limit == other._limit
            and self._back == other._back
            and self._ahead == other._ahead
        )


def _is_word(value, words):
    return isinstance(value, str) and value in words


def _are_plans(plans):
    if not isinstance(plans, tuple) or not 1 <= len(plans) <= 2:
        return False
    return all([isinstance(plan, Plan) for plan in plans])


def _are_marks(marks, many):
    if not isinstance(marks, tuple) or len(marks) != many:
        return False
    return all([is_between(mark, 0, 3) for mark in marks])
