import unittest
from itertools import product

from manymakers import lending
from manymakers.errors import InvalidAsks, InvalidCount, InvalidTime
from manymakers.lending import fewest_marks, holders, lent, shortest_length
from tests.plain import plain_lending

FAR = 10 ** 15
LONG = 10 ** 9
NO_INTEGERS = (True, False, None, "1", 1.0, (1,), [1])
NO_COUNTS = (0, -1, 10, 10 ** 20) + NO_INTEGERS
NO_LENGTHS = (0, -1, LONG + 1, 10 ** 20) + NO_INTEGERS
NO_TIMES = (-1, 2 * FAR + 1, 10 ** 20) + NO_INTEGERS
# What no ask can be, whatever is ahead of it.
NO_ASKS = (
    (), (0,), (0, 0, 0), [0, 0], "00", b"00", None, 0, True, {0: 0}, (-1, 0), (FAR + 1, 0), (0, -1), (0, 100),
    (True, 0), (0, True), (False, 0), (0, False), (None, 0), (0, None), ("0", 0), (0, "0"), ((0,), 0), (0.0, 0),
)


def all_asks():
    """Return many rows of four asks of three makers, with all ways in which their times are alike or not."""
    rows = []
    for gaps in product((0, 1, 3), repeat=3):
        times = [2, 2 + gaps[0], 2 + gaps[0] + gaps[1], 2 + sum(gaps)]
        rows += [tuple(zip(times, (7, *makers))) for makers in product((7, 4, 99), repeat=3)]
    return rows


class Interface(unittest.TestCase):
    def test_functions_are_defined_where_they_are_listed(self):
        for function in (lent, holders, fewest_marks, shortest_length):
            self.assertEqual(function.__module__, lending.__name__)

    def test_parameters_have_the_names_of_the_document(self):
        self.assertEqual(lent(count=1, length=2, asks=((0, 5),)), [0])
        self.assertEqual(holders(count=1, length=2, asks=((0, 5),), time=1), [(0, 5)])
        self.assertEqual(fewest_marks(length=2, asks=((0, 5),)), 1)
        self.assertIsNone(shortest_length(count=2, asks=((0, 5),)))


class Lent(unittest.TestCase):
    def test_against_going_tick_by_tick(self):
        for asks in all_asks():
            for count, length in product((1, 2), (1, 2, 3, 4)):
                marks, ticks = plain_lending(count, length, asks)
                self.assertEqual(lent(count, length, asks), marks, (count, length, asks))
                for time, owners in enumerate(ticks):
                    found = holders(count, length, asks, time)
                    self.assertEqual(found, sorted(owners.items()), (count, length, asks, time))

    def test_forty_asks_against_going_tick_by_tick(self):
        for makers, pace in product((3, 7, 11, 12), (1, 2, 3)):
            asks = tuple((at // pace + at * at // 90, at * at * 7 % makers) for at in range(40))
            for count, length in product((1, 3, 9), (1, 2, 5, 20)):
                marks, ticks = plain_lending(count, length, asks)
                self.assertEqual(lent(count, length, asks), marks)
                for time, owners in enumerate(ticks):
                    self.assertEqual(holders(count, length, asks, time), sorted(owners.items()))

    def test_no_asks(self):
        self.assertEqual(lent(1, 1, ()), [])
        self.assertEqual(holders(9, LONG, (), 0), [])
        self.assertEqual(holders(9, LONG, (), 2 * FAR), [])

    def test_a_maker_that_still_has_a_mark_keeps_it_and_has_it_for_the_length_from_then_on(self):
        asks = ((0, 1), (0, 2), (9, 2), (10, 1), (18, 2), (19, 3))
        self.assertEqual(lent(2, 10, asks), [0, 1, 1, 0, 1, None])
        self.assertEqual(holders(2, 10, asks, 27), [(1, 2)])
        self.assertEqual(holders(2, 10, asks, 28), [])
        # The least mark is free when the maker asks, but it has another one.
        self.assertEqual(lent(2, 10, ((0, 1), (5, 2), (12, 2), (13, 3))), [0, 1, 1, 0])

    def test_a_mark_is_given_back_just_when_the_length_has_passed(self):
        self.assertEqual(lent(1, 10, ((0, 1), (9, 2))), [0, None])
        self.assertEqual(lent(1, 10, ((0, 1), (10, 2))), [0, 0])
        self.assertEqual(lent(2, 10, ((0, 1), (1, 2), (10, 3), (11, 1))), [0, 1, 0, 1])
        # A maker that asks just then does not keep its mark: it gets the least one that is free.
        self.assertEqual(lent(2, 10, ((0, 1), (1, 2), (11, 2))), [0, 1, 0])
        self.assertEqual(lent(2, 10, ((0, 1), (1, 2), (10, 2))), [0, 1, 1])

    def test_the_least_mark_that_nobody_has(self):
        self.assertEqual(lent(9, 5, tuple((0, maker) for maker in range(10))), [0, 1, 2, 3, 4, 5, 6, 7, 8, None])
        self.assertEqual(lent(3, 5, ((0, 1), (1, 2), (2, 3), (6, 4), (6, 5))), [0, 1, 2, 0, 1])
        self.assertEqual(lent(1, 5, ((3, 8), (3, 8), (3, 9), (3, 8))), [0, 0, None, 0])

    def test_a_maker_that_got_none_has_none(self):
        asks = ((0, 1), (5, 2), (10, 3), (10, 2))
        self.assertEqual(lent(1, 10, asks), [0, None, 0, None])
        self.assertEqual(holders(1, 10, asks, 5), [(0, 1)])

    def test_far_times_and_great_lengths(self):
        asks = ((FAR - LONG, 0), (FAR - 1, 99), (FAR, 98), (FAR, 0))
        self.assertEqual(lent(1, LONG, asks), [0, None, 0, None])
        self.assertEqual(lent(2, LONG, asks), [0, 1, 0, None])
        self.assertEqual(holders(2, LONG, asks, FAR - 1), [(0, 0), (1, 99)])
        self.assertEqual(holders(2, LONG, asks, FAR), [(0, 98), (1, 99)])
        self.assertEqual(holders(2, LONG, asks, FAR + LONG - 1), [(0, 98)])
        self.assertEqual(holders(2, LONG, asks, FAR + LONG), [])
        self.assertEqual(holders(2, LONG, asks, 2 * FAR), [])


class Holders(unittest.TestCase):
    def test_behind_all_asks_of_that_time_and_none_of_later_ones(self):
        asks = ((3, 9), (5, 8), (5, 7), (5, 9), (6, 1))
        for time, found in (
            (0, []), (2, []), (3, [(0, 9)]), (4, [(0, 9)]), (5, [(0, 9), (1, 8), (2, 7)]),
            (6, [(0, 9), (1, 8), (2, 7), (3, 1)]), (8, [(0, 9), (1, 8), (2, 7), (3, 1)]), (9, [(3, 1)]), (10, []),
        ):
            with self.subTest(time=time):
                self.assertEqual(holders(9, 4, asks, time), found)

    def test_a_mark_that_was_given_back_and_lent_again(self):
        asks = ((0, 5), (4, 6), (4, 5))
        self.assertEqual(holders(2, 4, asks, 3), [(0, 5)])
        self.assertEqual(holders(2, 4, asks, 4), [(0, 6), (1, 5)])

    def test_ascending_by_marks_and_not_by_makers_or_asks(self):
        asks = ((0, 50), (1, 40), (2, 30), (5, 60))
        self.assertEqual(holders(9, 5, asks, 5), [(0, 60), (1, 40), (2, 30)])


class FewestMarks(unittest.TestCase):
    def test_against_trying_each_count(self):
        for asks in all_asks():
            for length in (1, 2, 3, 4):
                fitting = [count for count in range(1, 5) if None not in plain_lending(count, length, asks)[0]]
                self.assertEqual(fewest_marks(length, asks), fitting[0], (length, asks))

    def test_no_asks_need_none(self):
        self.assertEqual(fewest_marks(1, ()), 0)
        self.assertEqual(fewest_marks(LONG, ()), 0)

    def test_more_than_nine(self):
        for many in (9, 10, 11, 25, 40):
            asks = tuple((at, at) for at in range(many))
            self.assertEqual(fewest_marks(many, asks), many)
            self.assertEqual(fewest_marks(many - 1, asks), many - 1)
            self.assertEqual(fewest_marks(1, asks), 1)
            self.assertEqual(fewest_marks(1, tuple((FAR, maker) for maker in range(many))), many)

    def test_a_maker_that_keeps_its_mark_needs_no_other(self):
        self.assertEqual(fewest_marks(LONG, tuple((at, 7) for at in range(40))), 1)
        self.assertEqual(fewest_marks(10, ((0, 1), (5, 2), (9, 1), (10, 3), (15, 2))), 3)


class ShortestLength(unittest.TestCase):
    def test_against_trying_each_length(self):
        for asks in all_asks():
            for count in (1, 2, 3):
                short = [length for length in range(1, 13) if None in plain_lending(count, length, asks)[0]]
                self.assertEqual(shortest_length(count, asks), short[0] if short else None, (count, asks))

    def test_forty_asks_against_trying_each_length(self):
        for makers in (4, 9, 12):
            asks = tuple((at * at // 40, at * at * 7 % makers) for at in range(40))
            for count in (1, 2, 5, 9):
                short = [length for length in range(1, 45) if None in plain_lending(count, length, asks)[0]]
                self.assertEqual(shortest_length(count, asks), short[0] if short else None, (count, asks))

    def test_none_where_there_is_none(self):
        self.assertIsNone(shortest_length(1, ()))
        self.assertIsNone(shortest_length(1, ((0, 1),)))
        self.assertIsNone(shortest_length(1, tuple((at, 1) for at in range(40))))
        self.assertIsNone(shortest_length(9, tuple((at, at % 9) for at in range(40))))
        self.assertIsNone(shortest_length(1, ((0, 1), (LONG, 2))))
        self.assertIsNone(shortest_length(1, ((0, 1), (FAR, 2))))

    def test_the_least_and_the_greatest_length(self):
        self.assertEqual(shortest_length(1, ((FAR, 1), (FAR, 2))), 1)
        self.assertEqual(shortest_length(1, ((0, 1), (1, 2))), 2)
        self.assertEqual(shortest_length(1, ((0, 1), (LONG - 1, 2))), LONG)
        self.assertEqual(shortest_length(2, ((FAR - LONG + 1, 1), (FAR - 5, 2), (FAR, 3))), LONG)
        self.assertEqual(shortest_length(9, tuple((LONG * at // 20, at) for at in range(10))), LONG * 9 // 20 + 1)


class Errors(unittest.TestCase):
    """Each of the four functions with its good arguments, and what it raises for others."""

    CALLS = (lent, holders, fewest_marks, shortest_length)
    GOOD = {"count": 2, "length": 10, "asks": ((0, 5), (3, 6)), "time": 4}
    PARTS = {
        lent: ("count", "length", "asks"), holders: ("count", "length", "asks", "time"),
        fewest_marks: ("length", "asks"), shortest_length: ("count", "asks"),
    }

    def call(self, function, **changes):
        told = {**self.GOOD, **changes}
        return function(*[told[part] for part in self.PARTS[function]])

    def wrong_index(self, function, asks, **changes):
        with self.assertRaises(InvalidAsks) as caught:
            self.call(function, asks=asks, **changes)
        return caught.exception.index

    def test_counts_and_lengths_that_are_not_so(self):
        for function in self.CALLS:
            for part, wrongs in (("count", NO_COUNTS), ("length", NO_LENGTHS)):
                if part in self.PARTS[function]:
                    for wrong in wrongs:
                        with self.subTest(function=function.__name__, part=part, wrong=wrong):
                            with self.assertRaises(InvalidCount):
                                self.call(function, **{part: wrong})

    def test_counts_and_lengths_at_their_edges(self):
        for function in self.CALLS:
            for count, length in product((1, 9), (1, LONG)):
                self.call(function, count=count, length=length)

    def test_the_index_of_the_first_ask_that_cannot_be(self):
        for function in self.CALLS:
            for wrong in NO_ASKS:
                with self.subTest(function=function.__name__, wrong=wrong):
                    self.assertEqual(self.wrong_index(function, (wrong,)), 0)
                    self.assertEqual(self.wrong_index(function, ((0, 0), wrong, wrong)), 1)
                    self.assertEqual(self.wrong_index(function, ((0, 0),) * 39 + (wrong,)), 39)

    def test_a_time_below_the_one_ahead(self):
        for function in self.CALLS:
            self.assertEqual(self.wrong_index(function, ((5, 1), (4, 1))), 1)
            self.assertEqual(self.wrong_index(function, ((5, 1), (6, 1), (5, 1), (0, 1))), 2)
            self.assertEqual(self.wrong_index(function, ((FAR, 1), (FAR, 1), (FAR - 1, 1))), 2)
            self.call(function, asks=((5, 1), (5, 1), (5, 0)))

    def test_asks_at_their_edges(self):
        for function in self.CALLS:
            self.call(function, asks=((0, 0), (0, 99), (FAR, 0), (FAR, 99)))
            self.call(function, asks=((FAR, 99),) * 40)

    def test_the_41st_ask(self):
        for function in self.CALLS:
            self.assertEqual(self.wrong_index(function, ((0, 0),) * 41), 40)
            self.assertEqual(self.wrong_index(function, ((0, 0),) * 100), 40)
            self.assertEqual(self.wrong_index(function, ((0, 0),) * 40 + (None,)), 40)
            self.assertEqual(self.wrong_index(function, ((0, 0),) * 41 + (None,)), 40)
            self.assertEqual(self.wrong_index(function, ((0, 0),) * 12 + (None,) + ((0, 0),) * 40), 12)

    def test_times_that_are_not_so(self):
        for wrong in NO_TIMES:
            with self.subTest(wrong=wrong), self.assertRaises(InvalidTime):
                self.call(holders, time=wrong)
        self.assertEqual(self.call(holders, time=0), [(0, 5)])
        self.assertEqual(self.call(holders, time=2 * FAR), [])

    def test_several_wrong_at_once(self):
        for function in self.CALLS:
            for changes in ({"count": 0}, {"length": 0}, {"count": 10, "length": LONG + 1}):
                if set(changes) <= set(self.PARTS[function]):
                    with self.assertRaises(InvalidCount):
                        self.call(function, **changes, asks=((0, 0), None), time=-1)
            self.assertEqual(self.wrong_index(function, ((0, 0), None), time=-1), 1)
            self.assertEqual(self.wrong_index(function, ((0, 0),) * 41, time=None), 40)


class Package(unittest.TestCase):
    def test_what_is_handed_in_is_the_same_behind_the_call(self):
        asks = ((0, 5), (3, 6), (5, 7), (10, 5), (10, 7))
        like = tuple(tuple(list(ask)) for ask in asks)
        lent(2, 10, asks), holders(2, 10, asks, 7), fewest_marks(10, asks), shortest_length(2, asks)
        self.assertEqual(asks, like)

    def test_returned_lists_are_the_callers(self):
        asks = ((0, 5), (3, 6), (5, 7))
        for call in (lambda: lent(2, 10, asks), lambda: holders(2, 10, asks, 7)):
            found = call()
            before = list(found)
            found.append("changed")
            self.assertEqual(call(), before)
            found.clear()
            self.assertEqual(call(), before)
