"""Plain searches that the tests compare with: over whole standings, by what `after` alone tells."""

from manymakers.errors import InvalidEvent
from manymakers.events import after, begin


def conceivable(setup):
    """Return the ascending list of all events that can be in some standing or other."""
    makers = range(len(setup))
    jumps = [("clock", maker, reading) for maker in makers for reading in range(setup.top + 1)]
    return sorted(jumps + [(word, maker) for word in ("give", "restart") for maker in makers])


class Steps:
    """All steps from standings of a set-up, kept for the next time they are asked for."""

    def __init__(self, setup):
        self.setup = setup
        self.events = conceivable(setup)
        self.known = {}

    def behind(self, standing):
        """Return a list of tuples (event, standing behind it, number that was given or None)."""
        if standing not in self.known:
            found = []
            for event in self.events:
                try:
                    found.append((event, *after(self.setup, standing, event)))
                except InvalidEvent:
                    pass
            self.known[standing] = found
        return self.known[standing]


def ways(start, moves):
    """Return all nodes that can be reached, each with the first in list order of the shortest ways to it."""
    found = {start: []}
    level = dict(found)
    while level:
        further = {}
        for node, way in level.items():
            for event, behind in moves(node):
                longer = way + [event]
                if behind not in found and (behind not in further or longer < further[behind]):
                    further[behind] = longer
        found.update(further)
        level = further
    return found


def first(found, is_end):
    """Return the shortest of the ways to nodes that are ends, of several the first in list order, or None."""
    ends = [(len(way), way) for node, way in found.items() if is_end(node)]
    return min(ends)[1] if ends else None


def written_out(setup, longest):
    """Return all histories of up to so many events, the shorter ones first, those of a length in list order.

    Each is a tuple of the history, the standing at its end, and the list of (maker, number) that were given.
    """
    steps = Steps(setup)
    level = [([], begin(setup), [])]
    found = list(level)
    for _ in range(longest):
        further = []
        for history, standing, given in level:
            for event, behind, number in steps.behind(standing):
                told = [] if number is None else [(event[1], number)]
                further.append((history + [event], behind, given + told))
        level = further
        found += level
    return found


def plain_clash(setup):
    """Return what clash returns, by a search over all standings and all sets of numbers that were given."""
    steps = Steps(setup)

    def moves(node):
        standing, given, clashes = node
        if clashes:
            return []
        found = []
        for event, behind, number in steps.behind(standing):
            more = given if number is None else given | {number}
            found.append((event, (behind, more, number in given)))
        return found

    return first(ways((begin(setup), frozenset(), False), moves), lambda node: node[2])


def plain_most_numbers(setup):
    """Return what most_numbers returns, by a search over all standings and all sets of numbers that were given."""
    steps = Steps(setup)

    def moves(node):
        standing, given = node
        found = []
        for event, behind, number in steps.behind(standing):
            if number not in given:
                found.append((event, (behind, given if number is None else given | {number})))
        return found

    return max(len(given) for _, given in ways((begin(setup), frozenset()), moves))


def plain_disorder(setup):
    """Return what disorder returns, by a search over all standings and what each maker gave last."""
    steps = Steps(setup)

    def moves(node):
        standing, lasts, is_orderly = node
        if not is_orderly:
            return []
        found = []
        for event, behind, number in steps.behind(standing):
            told, grows = lasts, True
            if number is not None:
                maker = event[1]
                value = (number[0], number[2])
                grows = lasts[maker] is None or value > lasts[maker]
                told = lasts[:maker] + (value,) + lasts[maker + 1:]
            found.append((event, (behind, told, grows)))
        return found

    start = (begin(setup), (None,) * len(setup), True)
    return first(ways(start, moves), lambda node: not node[2])


def number_told(event, number):
    """Tell of a step what somebody is told who sees all numbers, and nothing else."""
    return number


def entry_told(event, number):
    """Tell of a step what is in a log of all that makers gave when they were told to."""
    return (event[1], number) if event[0] == "give" else None


def ways_telling(setup, told, tell):
    """Return ways to all nodes (standing, how many of these were told, the maker of each), just these being told."""
    steps = Steps(setup)

    def moves(node):
        standing, makers = node
        found = []
        for event, behind, number in steps.behind(standing):
            word = tell(event, number)
            if word is None:
                found.append((event, (behind, makers)))
            elif len(makers) < len(told) and word == told[len(makers)]:
                found.append((event, (behind, makers + (event[1],))))
        return found

    return ways((begin(setup), ()), moves)


def plain_series_way(setup, numbers):
    """Return what series_way returns, by a search over all standings and who gave the numbers."""
    return first(ways_telling(setup, numbers, number_told), lambda node: len(node[1]) == len(numbers))


def plain_log_way(setup, log):
    """Return what log_way returns, by a search over all standings and how much of the log was given."""
    return first(ways_telling(setup, log, entry_told), lambda node: len(node[1]) == len(log))


def plain_first_wrong(setup, log):
    """Return what first_wrong returns, by asking for a history of each beginning of the log."""
    for at in range(len(log)):
        if plain_log_way(setup, log[:at + 1]) is None:
            return at
    return None


def plain_ends_behind(setup, numbers):
    """Return what ends_behind returns, by one step with the last number from wherever the others were given."""
    if not numbers:
        return [begin(setup)]
    steps = Steps(setup)
    found = set()
    for standing, makers in ways_telling(setup, numbers[:-1], number_told):
        if len(makers) == len(numbers) - 1:
            found |= {behind for _, behind, number in steps.behind(standing) if number == numbers[-1]}
    return sorted(found)


def plain_givers(setup, numbers):
    """Return what givers returns, from all rows of makers by which all of the numbers were given."""
    rows = {makers for _, makers in ways_telling(setup, numbers, number_told) if len(makers) == len(numbers)}
    return [tuple(sorted({makers[at] for makers in rows})) for at in range(len(numbers))]


def plain_number_ways(setup):
    """Return a function that returns what number_way does, by a search over all standings that is made once."""
    steps = Steps(setup)

    def moves(node):
        return [(event, (behind, given)) for event, behind, given in steps.behind(node[0])]

    found = ways((begin(setup), None), moves)
    return lambda number: first(found, lambda node: node[1] == number)


def plain_parting(one, other):
    """Return what parting returns, by a search over all pairs of standings."""
    steps, other_steps = Steps(one), Steps(other)

    def moves(node):
        standing, other_standing, is_alike = node
        if not is_alike:
            return []
        found = []
        beside = {event: (behind, number) for event, behind, number in other_steps.behind(other_standing)}
        for event, behind, number in steps.behind(standing):
            if event in beside:
                other_behind, other_number = beside[event]
                found.append((event, (behind, other_behind, number == other_number)))
        return found

    return first(ways((begin(one), begin(other), True), moves), lambda node: not node[2])


def plain_standings(setup):
    """Return all standings that can come about, each with the way that way_to returns."""
    steps = Steps(setup)
    return ways(begin(setup), lambda standing: [(event, behind) for event, behind, _ in steps.behind(standing)])


def plain_lending(count, length, asks):
    """Return the marks that asks got, and a list with a dict {mark: maker} for each tick, by going tick by tick."""
    owners = {}
    left = {}
    marks = []
    ticks = []
    last = asks[-1][0] + length + 2 if asks else 2
    for tick in range(last):
        for mark in list(left):
            left[mark] -= 1
            if left[mark] == 0:
                del left[mark], owners[mark]
        for time, maker in asks:
            if time == tick:
                mark = min([held for held, owner in owners.items() if owner == maker], default=None)
                if mark is None:
                    mark = min(set(range(count)) - set(owners), default=None)
                if mark is not None:
                    owners[mark] = maker
                    left[mark] = length
                marks.append(mark)
        ticks.append(dict(owners))
    return marks, ticks


def plain_house(setup, operations):
    """Return how a house is behind some operations in effect: its standing, what was given, and what is kept.

    What was given is a tuple of (maker, number); what is kept is a dict {name: (standing, what was given)}.
    """
    standing, given, kept = begin(setup), (), {}
    for operation in operations:
        if operation[0] == "keep_as":
            kept[operation[1]] = (standing, given)
        elif operation[0] == "fetch":
            standing, given = kept[operation[1]]
        else:
            standing, number = after(setup, standing, operation)
            given += () if number is None else ((operation[1], number),)
    return standing, given, kept
