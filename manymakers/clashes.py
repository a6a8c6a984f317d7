"""Whether numbers clash or fail to grow, what parts two set-ups, and how many numbers and histories there are."""

from math import comb

from manymakers.checks import is_between
from manymakers.errors import InvalidCount, UnlikeSetups
from manymakers.events import begin
from manymakers.setups import BACK_WORDS, FULL_WORDS, RESTART_WORDS, Plan, Setup
from manymakers.ways import first_way, maker_steps, shortest_way, steps_from

# How many events and numbers history_count can be asked for.
MOST_COUNTED = 30


def clash(setup):
    """Return the shortest history in which two numbers are alike, None if there is none."""
    # Numbers with unlike marks are never alike, so the makers of one mark are alone in the shortest history.
    return first_way([_clash_with_mark(setup, mark) for mark in sorted(set(setup.marks))])


def disorder(setup):
    """Return the shortest history in which a maker's number is not greater than its last one, None if none."""
    # What other makers do changes nothing for the one that is out of order.
    return first_way([_disorder_of(setup, maker) for maker in range(len(setup))])


def safe_plans(top, limit, back, ahead):
    """Return the ascending list of the words of all plans with which one maker's numbers never clash."""
    alone = _all_alone(top, limit, back, ahead)
    return [words for words, setup in alone if clash(setup) is None]


def orderly_plans(top, limit, back, ahead):
    """Return the ascending list of the words of all plans with which one maker's numbers always grow."""
    alone = _all_alone(top, limit, back, ahead)
    return [words for words, setup in alone if disorder(setup) is None]


def parting(one, other):
    """Return the shortest history in which two set-ups do not give the same, None if there is none."""
    if len(one) != len(other) or _clock_bounds(one) != _clock_bounds(other):
        raise UnlikeSetups("the set-ups differ in more than plans, marks and limit")
    # What other makers do changes nothing for the one at which the set-ups part.
    return first_way([_parting_at(one, other, maker) for maker in range(len(one))])


def most_numbers(setup):
    """Return how many numbers can be given at most in a history that does not clash."""
    gifts = [()]
    for maker in range(len(setup)):
        own_gifts = _gifts_alone(setup, maker)
        gifts = [gift + own for gift in gifts for own in own_gifts if not _have_common(gift, own)]
    return max([len(gift) for gift in gifts])


def history_count(setup, length, given):
    """Return how many histories of so many events there are in which just so many numbers are given."""
    if not is_between(length, 0, MOST_COUNTED) or not is_between(given, 0, MOST_COUNTED):
        raise InvalidCount("the length and how many are given are from 0 to 30")
    first = _counts_alone(setup, 0, length)
    if len(setup) == 1:
        return first[length].get(given, 0)
    second = _counts_alone(setup, 1, length)
    total = 0
    for own in range(length + 1):
        # No maker touches another one, so their events can be mixed in every way.
        mixed = comb(length, own)
        for gave, many in first[own].items():
            total += mixed * many * second[length - own].get(given - gave, 0)
    return total


def _clash_with_mark(setup, mark):
    makers = [maker for maker in range(len(setup)) if setup.marks[maker] == mark]
    tables = {maker: maker_steps(setup, maker) for maker in makers}

    def moves(node):
        standing, given, _ = node
        found = []
        for event, behind, number in steps_from(tables, standing):
            found.append((event, (behind, _with_number(given, number), number in given)))
        return found

    return shortest_way((begin(setup), (), False), moves, lambda node: node[2])


def _with_number(given, number):
    """Return the ascending tuple of some numbers and one more, which may be None for no number."""
    if number is None or number in given:
        return given
    return tuple(sorted([*given, number]))


def _disorder_of(setup, maker):
    table = maker_steps(setup, maker)

    def moves(node):
        state, last, _ = node
        found = []
        for event, behind, number in table[state]:
            if number is None:
                found.append((event, (behind, last, True)))
            else:
                # All numbers of a maker have one mark, so their tuples are ordered as the readings and counters are.
                found.append((event, (behind, number, number > last)))
        return found

    return shortest_way((begin(setup)[maker], (), True), moves, lambda node: not node[2])


def _all_alone(top, limit, back, ahead):
    """Return the ascending list of the words of all plans, each with a set-up of one maker that has it."""
    found = []
    for on_back in sorted(BACK_WORDS):
        for on_full in sorted(FULL_WORDS):
            for on_restart in sorted(RESTART_WORDS):
                plan = Plan(on_back, on_full, on_restart)
                setup = Setup((plan,), (0,), top, limit, back, ahead)
                found.append(((on_back, on_full, on_restart), setup))
    return found


def _clock_bounds(setup):
    return (setup.top, setup.back, setup.ahead)


def _parting_at(one, other, maker):
    table, other_table = maker_steps(one, maker), maker_steps(other, maker)

    def moves(node):
        state, other_state, _ = node
        found = []
        # The clocks of both show the same and have the same bounds, so both have the same events, in one order.
        for step, other_step in zip(table[state], other_table[other_state]):
            found.append((step[0], (step[1], other_step[1], step[2] == other_step[2])))
        return found

    return shortest_way((begin(one)[maker], begin(other)[maker], True), moves, lambda node: not node[2])


def _gifts_alone(setup, maker):
    """Return a list of all tuples of numbers that a maker can give without one that it has given before."""
    table = maker_steps(setup, maker)
    reached = {}
    waiting = [(begin(setup)[maker], ())]
    while waiting:
        node = waiting.pop()
        if node not in reached:
            reached[node] = True
            state, given = node
            for _, behind, number in table[state]:
                if number not in given:
                    waiting.append((behind, _with_number(given, number)))
    return sorted(set([gift for _, gift in reached]))


def _have_common(one, other):
    return any([number in other for number in one])


def _counts_alone(setup, maker, length):
    """Return how many histories of a maker there are: for each length a dict, by how many numbers are given."""
    table = maker_steps(setup, maker)
    ends = {(begin(setup)[maker], 0): 1}
    counts = []
    for _ in range(length + 1):
        counts.append(_counts_by_given(ends))
        ends = _ends_further(table, ends)
    return counts


def _counts_by_given(ends):
    counts = {}
    for (_, given), many in ends.items():
        counts[given] = counts.get(given, 0) + many
    return counts


def _ends_further(table, ends):
    """Return how many histories lead to each state with so many numbers given, one event further on."""
    further = {}
    for (state, given), many in ends.items():
        for _, behind, number in table[state]:
            end = (behind, given if number is None else given + 1)
            further[end] = further.get(end, 0) + many
    return further
