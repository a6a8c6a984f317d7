"""Somebody who watches the numbers that makers give."""

from manymakers.checks import is_number
from manymakers.errors import InvalidNumber, NoHistory
from manymakers.events import begin
from manymakers.telling import told_next
from manymakers.ways import all_steps, number_told


class Watcher:
    """Somebody who sees all numbers that are given, in order, and nothing else."""

    def __init__(self, setup):
        self._tables = all_steps(setup)
        self._left = [begin(setup)]
        self._told = []
        # All makers that can have given the last number.
        self._givers = []

    @property
    def standings_left(self):
        """The ascending list of the standings in which the makers can be just when the last number was given."""
        return list(self._left)

    @property
    def told_so_far(self):
        """The list of all numbers that were told and accepted, in order."""
        return list(self._told)

    def seen(self, number):
        """Tell that a number was given; return in how many standings the makers can be just then."""
        if not is_number(number):
            raise InvalidNumber("a number is a tuple of a reading, a mark and a counter")
        gifts = [(maker, behind) for given, maker, behind in self._next_gifts() if given == number]
        if not gifts:
            raise NoHistory("there is no history in which just these numbers are given")
        self._left = sorted(set([behind for _, behind in gifts]))
        self._givers = sorted(set([maker for maker, _ in gifts]))
        self._told.append(number)
        return len(self._left)

    def next_numbers(self):
        """Return the ascending list of all numbers that can be given next."""
        return sorted(set([gift[0] for gift in self._next_gifts()]))

    def sure_giver(self):
        """Return the maker that surely gave the last number, None if there is none or several can have given it."""
        return self._givers[0] if len(self._givers) == 1 else None

    def sure_parts(self):
        """Return what is the same in all standings that are left, with None for each part that is not."""
        return tuple([_same_parts(states) for states in zip(*self._left)])

    def _next_gifts(self):
        """Return a list of all that can be given next: (number, maker, standing behind it)."""
        return told_next(self._tables, self._left, number_told)


def _same_parts(states):
    return tuple([parts[0] if len(set(parts)) == 1 else None for parts in zip(*states)])
