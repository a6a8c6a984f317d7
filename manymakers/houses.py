"""Houses in which makers are at work: their operations can be undone, executed once more, and tried out."""

from manymakers.errors import InvalidName, InvalidOperation, UnknownKept
from manymakers.events import NO_READING, begin, check_event, step

LETTERS = "abcdefghijklmnopqrstuvwxyz"
LONGEST_NAME = 8

# How many parts an operation has, the name of its method itself counted.
OPERATION_PARTS = {"clock": 3, "restart": 2, "give": 2, "keep_as": 2, "fetch": 2, "undo": 1, "redo": 1}


class Moment:
    """How a house is behind an operation. It never changes, so that the house can keep it and return to it."""

    def __init__(self, before, operation, standing, number, kept):
        # Behind a fetch, the moment before is the one that was kept, and not that of the last operation.
        self.before = before
        self.operation = operation
        self.standing = standing
        self.number = number
        self.kept = kept


class House:
    """Makers at work, as at the beginning at first."""

    def __init__(self, setup):
        self._setup = setup
        self._moments = [Moment(None, None, begin(setup), None, {})]
        self._undone = []

    @property
    def standing_now(self):
        """The standing of the makers."""
        return self._now().standing

    @property
    def numbers_given(self):
        """The list of all numbers that were given, in order."""
        return [moment.number for moment in _moments_with_numbers(self._now())]

    @property
    def has_clash(self):
        """Whether two of the numbers that were given are alike."""
        numbers = self.numbers_given
        return len(set(numbers)) < len(numbers)

    @property
    def is_orderly(self):
        """Whether each maker gave only numbers that are greater than its last one."""
        moments = _moments_with_numbers(self._now())
        return all([_is_growing(moments, maker) for maker in range(len(self._setup))])

    @property
    def kept_under(self):
        """The ascending list of all names under which something is kept."""
        return sorted(self._now().kept)

    @property
    def history(self):
        """The list of all operations in effect, in order."""
        return [moment.operation for moment in self._moments[1:]]

    def clock(self, maker, reading):
        """Let a maker's clock jump to a reading; return by how much it jumped."""
        before = self.standing_now
        self._let_happen(("clock", maker, reading))
        return reading - before[maker][0]

    def restart(self, maker):
        """Restart a maker; return whether it knows of a last number then."""
        self._let_happen(("restart", maker))
        return self.standing_now[maker][1] != NO_READING

    def give(self, maker):
        """Let a maker give a number; return it, or None."""
        self._let_happen(("give", maker))
        return self._now().number

    def keep_as(self, name):
        """Keep all that there is under a name; return whether something was kept under it before."""
        if not _is_name(name):
            raise InvalidName("a name has one to eight letters a to z")
        now = self._now()
        self._go_on(Moment(now, ("keep_as", name), now.standing, None, {**now.kept, name: now}))
        return name in now.kept

    def fetch(self, name):
        """Return to what was kept under a name last; return how many numbers were given up to then."""
        now = self._now()
        if not isinstance(name, str) or name not in now.kept:
            raise UnknownKept("nothing is kept under this name")
        then = now.kept[name]
        self._go_on(Moment(then, ("fetch", name), then.standing, None, now.kept))
        return len(self.numbers_given)

    def undo(self):
        """Undo the last operation that is in effect; return whether there was one."""
        if len(self._moments) == 1:
            return False
        self._undone.append(self._moments.pop())
        return True

    def redo(self):
        """Execute the operation that was undone last once more; return whether there was one."""
        if not self._undone:
            return False
        # It is executed where it was executed before, so all becomes as it was behind it then.
        self._moments.append(self._undone.pop())
        return True

    def apply_all(self, operations):
        """Execute a list of operations, all of them or none; return the list of their results."""
        _check_operations(operations)
        with Trial(self) as trial:
            results = [self._execute(operation) for operation in operations]
            trial.hold()
        return results

    def tried_out(self, operations, keep):
        """Execute a list of operations, keep what they change if told so, and return the list of their results."""
        with Trial(self) as trial:
            results = self.apply_all(operations)
            if keep is True:
                trial.hold()
        return results

    @classmethod
    def replay(cls, setup, operations):
        """Return a house after a list of operations."""
        house = cls(setup)
        house.apply_all(operations)
        return house

    def _now(self):
        return self._moments[-1]

    def _let_happen(self, event):
        now = self._now()
        check_event(self._setup, now.standing, event)
        standing, number = step(self._setup, now.standing, event)
        self._go_on(Moment(now, event, standing, number, now.kept))

    def _go_on(self, moment):
        self._moments.append(moment)
        self._undone = []

    def _execute(self, operation):
        name = operation[0]
        if name == "clock":
            return self.clock(operation[1], operation[2])
        if name == "restart":
            return self.restart(operation[1])
        if name == "give":
            return self.give(operation[1])
        if name == "keep_as":
            return self.keep_as(operation[1])
        if name == "fetch":
            return self.fetch(operation[1])
        if name == "undo":
            return self.undo()
        return self.redo()


class Trial:
    """A block at whose end a house is as it was at its beginning, unless it is held."""

    def __init__(self, house):
        self._house = house
        self._moments = None
        self._undone = None

    def __enter__(self):
        self._moments = list(self._house._moments)
        self._undone = list(self._house._undone)
        return self

    def __exit__(self, kind, value, trace):
        if self._moments is None:
            return False
        self._house._moments = self._moments
        self._house._undone = self._undone
        return False

    def hold(self):
        """Let the house stay as it is at the end of the block."""
        self._moments = None
        self._undone = None


def _moments_with_numbers(moment):
    """Return the list of all moments up to one behind whose operation a number was given, in order."""
    found = []
    while moment is not None:
        if moment.number is not None:
            found.append(moment)
        moment = moment.before
    return found[::-1]


def _is_growing(moments, maker):
    # All numbers of a maker have one mark, so their tuples are ordered as the readings and counters are.
    numbers = [moment.number for moment in moments if moment.operation[1] == maker]
    return all([late > early for early, late in zip(numbers, numbers[1:])])


def _is_name(name):
    if not isinstance(name, str) or not 1 <= len(name) <= LONGEST_NAME:
        return False
    return all([sign in LETTERS for sign in name])


def _check_operations(operations):
    for at, operation in enumerate(operations):
        if not _is_operation(operation):
            raise InvalidOperation(at)


def _is_operation(operation):
    if not isinstance(operation, tuple) or len(operation) == 0 or not isinstance(operation[0], str):
        return False
    return OPERATION_PARTS.get(operation[0]) == len(operation)
