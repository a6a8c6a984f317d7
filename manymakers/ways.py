"""By which shortest histories standings, numbers and rows of numbers come about."""

from manymakers.checks import is_number
from manymakers.errors import InvalidNumber, InvalidSeries, InvalidStanding
from manymakers.events import begin, events_alone, is_standing, step_alone, with_state

# How many numbers a series can have.
MOST_IN_SERIES = 8


def standings(setup):
    """Return the ascending list of all standings that can come about."""
    found = [()]
    for maker in range(len(setup)):
        states = sorted(maker_steps(setup, maker))
        # No maker touches another one, so each state of one goes with each state of the other.
        found = [standing + (state,) for standing in found for state in states]
    return found


def way_to(setup, standing):
    """Return the shortest history to a standing, None if it cannot come about."""
    if not is_standing(setup, standing):
        raise InvalidStanding("the standing does not fit the set-up")
    way = []
    for maker, state in enumerate(standing):
        own_way = _way_to_state(setup, maker, state)
        if own_way is None:
            return None
        way = _merged(way, own_way)
    return way


def number_way(setup, number):
    """Return the shortest history at whose end a number is given, None if it cannot be given."""
    if not is_number(number):
        raise InvalidNumber("a number is a tuple of a reading, a mark and a counter")
    # What other makers do changes nothing for the one that gives, so it is alone in the shortest history.
    return first_way([_number_way_of(setup, maker, number) for maker in range(len(setup))])


def series_way(setup, numbers):
    """Return the shortest history in which just these numbers are given, None if there is none."""
    check_series(numbers)
    return told_way(setup, numbers, number_told)


def check_series(numbers):
    """Raise an error if a list is not one of up to eight numbers."""
    for at, number in enumerate(numbers):
        if at >= MOST_IN_SERIES or not is_number(number):
            raise InvalidSeries(at)


def maker_steps(setup, maker):
    """Return a dict of all states in which a maker can be, its tuples of the standings that can come about.

    To each belongs the ascending list of its steps: an event, the maker's state behind it, the number given or None.
    """
    steps = {}
    waiting = [begin(setup)[maker]]
    while waiting:
        state = waiting.pop()
        if state not in steps:
            events = events_alone(setup, maker, state)
            steps[state] = [(event, *step_alone(setup, state, event)) for event in events]
            waiting.extend([behind for _, behind, number in steps[state]])
    return steps


def all_steps(setup):
    """Return a dict with the table of maker_steps for each maker."""
    return {maker: maker_steps(setup, maker) for maker in range(len(setup))}


def steps_from(tables, standing):
    """Return the ascending list of the steps of some makers from a standing: event, standing behind it, number.

    The tables are those of maker_steps, by their makers.
    """
    found = []
    for maker, table in tables.items():
        for event, state, number in table[standing[maker]]:
            found.append((event, with_state(standing, maker, state), number))
    return sorted(found, key=lambda step: step[0])


def shortest_way(start, moves, is_end):
    """Return the shortest list of events from a node to an end, of several the first in list order, None if none.

    A move is an event and the node behind it; moves(node) lists those of a node, ascending, is_end tells an end.
    """
    if is_end(start):
        return []
    came_by = {start: None}
    level = [start]
    while level:
        further = []
        # The nodes of a level are in the order of the ways to them, and so are those that are found from it:
        # the way by which a node is found first is the one that is wanted.
        for node in level:
            for event, behind in moves(node):
                if behind not in came_by:
                    came_by[behind] = (node, event)
                    if is_end(behind):
                        return _way_back(came_by, behind)
                    further.append(behind)
        level = further
    return None


def _way_back(came_by, node):
    way = []
    while came_by[node] is not None:
        node, event = came_by[node]
        way.append(event)
    return way[::-1]


def number_told(_, number):
    """Return what somebody is told of a step who sees numbers only: the number, None if there is none."""
    return number


def told_way(setup, told, tell):
    """Return the shortest history of which just this list is told, of several the first in list order, None if none.

    What is told of an event, and of the number that it gave or None, is tell(event, number), None for nothing.
    """
    tables = all_steps(setup)

    def moves(node):
        standing, many = node
        found = []
        for event, behind, number in steps_from(tables, standing):
            word = tell(event, number)
            if word is None:
                found.append((event, (behind, many)))
            elif word == told[many]:
                found.append((event, (behind, many + 1)))
        return found

    return shortest_way((begin(setup), 0), moves, lambda node: node[1] == len(told))


def first_way(ways):
    """Return the shortest of some histories, of several the first in list order; None is no history."""
    found = [way for way in ways if way is not None]
    return min(found, key=lambda way: (len(way), way), default=None)


def _way_to_state(setup, maker, wanted):
    table = maker_steps(setup, maker)

    def moves(state):
        return [(event, behind) for event, behind, number in table[state]]

    return shortest_way(begin(setup)[maker], moves, lambda state: state == wanted)


def _number_way_of(setup, maker, wanted):
    table = maker_steps(setup, maker)

    def moves(node):
        return [(event, (state, number == wanted)) for event, state, number in table[node[0]]]

    return shortest_way((begin(setup)[maker], False), moves, lambda node: node[1])


def _merged(one, other):
    """Return the first list, in list order, that has two lists' events, those of each in their order.

    No event is in both. Of all histories of two makers with given ends, the first is made of the first one of each.
    """
    merged = []
    at, by = 0, 0
    while at < len(one) and by < len(other):
        if one[at] < other[by]:
            merged.append(one[at])
            at += 1
        else:
            merged.append(other[by])
            by += 1
    return merged + one[at:] + other[by:]
