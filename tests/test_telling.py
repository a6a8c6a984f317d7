import copy
import unittest
from itertools import product

from manymakers import telling
from manymakers.errors import InvalidLog, InvalidSeries
from manymakers.events import begin, run
from manymakers.telling import ends_behind, first_wrong, givers, log_way
from manymakers.ways import series_way
from tests import plain
from tests.makers import ALL_WORDS, NO_NUMBERS, one_maker, two_makers

PLAIN = ("trust", "wrap", "forget")
CAREFUL = ("refuse", "refuse", "wait")
BORROWING = ("hold", "borrow", "saved")
LOSING = ("refuse", "wrap", "forget")
PAIRS = [
    (PLAIN, CAREFUL), (CAREFUL, CAREFUL), (BORROWING, PLAIN), (("hold", "refuse", "wait"), BORROWING),
    (("refuse", "wrap", "saved"), ("trust", "borrow", "wait")),
]
SMALL = {"top": 1, "limit": 0, "back": 1, "ahead": 1}
WIDE = {"top": 2, "limit": 1, "back": 1, "ahead": 2}
# What no entry of a log can be, with one maker or with two.
NO_ENTRIES = (
    (), (0,), (0, None, None), (0, (0, 3, 0), 0), [0, None], "00", b"00", None, 0, True, {0: None}, (0, 3, 0),
    (-1, None), (2, None), (10 ** 20, None), (True, None), (False, None), (None, None), ("0", None), ((0,), None),
    (-1, (0, 3, 0)), (2, (0, 3, 0)), (True, (0, 3, 0)), (None, (0, 3, 0)), (0, False), (0, "none"),
) + tuple((0, number) for number in NO_NUMBERS if number is not None)


def log_of(setup, history):
    gave = [event[1] for event in history if event[0] == "give"]
    return list(zip(gave, run(setup, history)[1]))


class Interface(unittest.TestCase):
    def test_functions_are_defined_where_they_are_listed(self):
        for function in (ends_behind, givers, log_way, first_wrong):
            self.assertEqual(function.__module__, telling.__name__)

    def test_parameters_have_the_names_of_the_document(self):
        setup = one_maker(CAREFUL)
        self.assertEqual(ends_behind(setup=setup, numbers=[]), [begin(setup)])
        self.assertEqual(givers(setup=setup, numbers=[]), [])
        self.assertEqual(log_way(setup=setup, log=[]), [])
        self.assertIsNone(first_wrong(setup=setup, log=[]))


class WrittenOut(unittest.TestCase):
    """Compares with all histories of up to so many events, which suffice for series as short as those here."""

    def check(self, setup, longest, most):
        ends, makers = {}, {}
        for history, standing, given in plain.written_out(setup, longest):
            series = tuple(number for _, number in given)
            if len(series) <= most:
                makers.setdefault(series, [set() for _ in series])
                for at, (maker, _) in enumerate(given):
                    makers[series][at].add(maker)
                if history and history[-1][0] == "give" and run(setup, history)[1][-1] is not None:
                    ends.setdefault(series, set()).add(standing)
        for series in makers:
            if series:
                self.assertEqual(ends_behind(setup, list(series)), sorted(ends[series]), series)
            self.assertEqual(givers(setup, list(series)), [tuple(sorted(found)) for found in makers[series]], series)
        numbers = sorted({number for series in makers for number in series} | {(1, 0, 0), (7, 1, 0)})
        for series in product(numbers, repeat=most):
            if series not in makers:
                self.assertEqual(ends_behind(setup, list(series)), [], series)
                self.assertEqual(givers(setup, list(series)), [()] * most, series)

    def test_one_maker(self):
        for words in ALL_WORDS:
            with self.subTest(words):
                self.check(one_maker(words, **SMALL), 8, 2)
        self.check(one_maker(LOSING, top=1, limit=1, back=1, ahead=1), 8, 2)
        self.check(one_maker(BORROWING, top=2, limit=0, back=1, ahead=2), 7, 2)

    def test_two_makers_with_marks_alike_and_unlike(self):
        for one, other in PAIRS[:4]:
            for marks in ((1, 1), (1, 3), (3, 1)):
                with self.subTest(one=one, other=other, marks=marks):
                    self.check(two_makers(one, other, marks, **SMALL), 5, 1)
        for marks in ((1, 1), (3, 1)):
            self.check(two_makers(PLAIN, CAREFUL, marks, top=1, limit=0, back=0, ahead=1), 6, 2)


class Ends(unittest.TestCase):
    def test_the_beginning_alone_for_no_numbers(self):
        for setup in (one_maker(PLAIN), one_maker(BORROWING, **SMALL), two_makers(CAREFUL, PLAIN)):
            self.assertEqual(ends_behind(setup, []), [begin(setup)])

    def test_one_maker_against_a_plain_search(self):
        numbers = list(product(range(2), (3,), range(2))) + [(2, 3, 0), (0, 1, 0)]
        for words in ALL_WORDS:
            setup = one_maker(words, top=1)
            for series in product(numbers, repeat=2):
                with self.subTest(words=words, series=series):
                    self.assertEqual(ends_behind(setup, list(series)), plain.plain_ends_behind(setup, series))

    def test_two_makers_against_a_plain_search(self):
        for (one, other), marks in product(PAIRS, ((1, 1), (1, 3), (3, 1))):
            setup = two_makers(one, other, marks, **SMALL)
            numbers = [(reading, mark, 0) for reading in (0, 1) for mark in sorted(set(marks))]
            for series in product(numbers, repeat=3):
                with self.subTest(one=one, other=other, marks=marks, series=series):
                    self.assertEqual(ends_behind(setup, list(series)), plain.plain_ends_behind(setup, series))

    def test_eight_numbers_and_wide_bounds_against_a_plain_search(self):
        setup = two_makers(PLAIN, BORROWING, (3, 3), **WIDE)
        for series in (
            [(0, 3, 0), (0, 3, 0), (0, 3, 1), (0, 3, 1), (1, 3, 0), (2, 3, 0)], [(2, 3, 0)] * 4, [(0, 3, 0)] * 8,
            [(0, 3, 0)] * 7 + [(0, 3, 2)], [(1, 3, 0), (1, 3, 1)] * 2,
        ):
            found = ends_behind(setup, series)
            self.assertEqual(found, plain.plain_ends_behind(setup, series))
            self.assertEqual(found == [], series_way(setup, series) is None)

    def test_just_when_the_last_number_was_given_and_not_behind_it(self):
        setup = one_maker(PLAIN, mark=1)
        self.assertEqual(ends_behind(setup, [(2, 1, 0)]), [((2, 2, 0, -1),)])
        # A maker that holds can have a clock that runs back meanwhile, and goes on with the last reading.
        setup = one_maker(("hold", "refuse", "forget"), mark=1)
        self.assertEqual(
            ends_behind(setup, [(2, 1, 0), (2, 1, 1)]), [((0, 2, 1, -1),), ((1, 2, 1, -1),), ((2, 2, 1, -1),)]
        )

    def test_the_other_maker_can_be_where_no_number_is_given_on_the_way(self):
        setup = two_makers(CAREFUL, CAREFUL, (0, 1), top=1, limit=0, back=0, ahead=1)
        fresh = [(0, -1, 0, -1), (1, -1, 0, -1)]
        self.assertEqual(ends_behind(setup, [(0, 1, 0)]), [(state, (0, 0, 0, 0)) for state in fresh])
        self.assertEqual(ends_behind(setup, [(0, 0, 0), (1, 1, 0)]), [
            ((reading, last, 0, 0), (1, 1, 0, 1)) for reading in (0, 1) for last in (-1, 0)
        ])

    def test_no_standing_where_there_is_no_history(self):
        for series in ([(0, 3, 1)], [(0, 1, 0)], [(0, 3, 0), (0, 3, 0)], [(1, 3, 0), (0, 3, 0)], [(3, 3, 0)]):
            self.assertEqual(ends_behind(one_maker(CAREFUL), series), [])
        self.assertEqual(ends_behind(two_makers(CAREFUL, CAREFUL, (2, 2)), [(0, 2, 0)] * 3), [])
        self.assertEqual(len(ends_behind(two_makers(CAREFUL, CAREFUL, (2, 2), **SMALL), [(0, 2, 0)] * 2)), 7)

    def test_none_that_is_given_in_between_is_no_number(self):
        # At the lower reading this maker gives none when it is told to.
        setup = one_maker(LOSING, **SMALL)
        history = [("clock", 0, 1), ("give", 0), ("clock", 0, 0), ("give", 0), ("clock", 0, 1), ("give", 0)]
        standing, given = run(setup, history)
        self.assertEqual(given, [(1, 3, 0), None, (1, 3, 0)])
        self.assertEqual(ends_behind(setup, [(1, 3, 0), (1, 3, 0)]), [standing])


class Givers(unittest.TestCase):
    def test_no_tuples_for_no_numbers(self):
        self.assertEqual(givers(one_maker(PLAIN), []), [])
        self.assertEqual(givers(two_makers(CAREFUL, CAREFUL), []), [])

    def test_all_tuples_are_empty_if_there_is_no_such_history(self):
        self.assertEqual(givers(one_maker(CAREFUL), [(0, 3, 0), (0, 3, 0)]), [(), ()])
        self.assertEqual(givers(one_maker(CAREFUL), [(0, 3, 0), (0, 3, 1), (7, 7, 7)]), [(), (), ()])
        self.assertEqual(givers(two_makers(CAREFUL, CAREFUL, (1, 1)), [(0, 1, 0)] * 3), [()] * 3)
        self.assertEqual(givers(two_makers(CAREFUL, CAREFUL, (1, 2)), [(0, 3, 0)]), [()])

    def test_against_a_plain_search(self):
        for (one, other), marks in product(PAIRS, ((1, 1), (1, 3), (3, 1))):
            setup = two_makers(one, other, marks, **SMALL)
            numbers = [(reading, mark, 0) for reading in (0, 1) for mark in sorted(set(marks))]
            for series in list(product(numbers, repeat=2)) + list(product(numbers, repeat=3))[::3]:
                with self.subTest(one=one, other=other, marks=marks, series=series):
                    self.assertEqual(givers(setup, list(series)), plain.plain_givers(setup, series))

    def test_one_the_other_and_both(self):
        setup = two_makers(CAREFUL, PLAIN, (1, 2))
        self.assertEqual(givers(setup, [(0, 2, 0), (0, 1, 0), (0, 2, 1)]), [(1,), (0,), (1,)])
        # The careful one can have given any of these, but no two of them.
        setup = two_makers(CAREFUL, PLAIN, (1, 1), limit=0)
        self.assertEqual(givers(setup, [(1, 1, 0), (0, 1, 0), (1, 1, 0)]), [(0, 1)] * 3)
        setup = two_makers(CAREFUL, CAREFUL, (1, 1), limit=0)
        self.assertEqual(givers(setup, [(1, 1, 0), (0, 1, 0)]), [(0, 1)] * 2)
        # Neither of these gives anything lower, and only the second one gives the same again.
        setup = two_makers(("hold", "refuse", "wait"), ("hold", "wrap", "wait"), (1, 1), limit=0)
        self.assertEqual(givers(setup, [(1, 1, 0), (0, 1, 0), (0, 1, 0)]), [(0,), (1,), (1,)])
        self.assertEqual(givers(setup, [(1, 1, 0), (1, 1, 0), (0, 1, 0)]), [(1,), (1,), (0,)])

    def test_what_comes_later_tells_who_gave_an_earlier_one(self):
        # The counter 1 follows the counter 0 of the same reading, so one gave these, and the other the one in between.
        # The careful one gives nothing lower behind the first, so it did not give that.
        setup = two_makers(CAREFUL, PLAIN, (1, 1))
        self.assertEqual(givers(setup, [(2, 1, 0)]), [(0, 1)])
        series = [(2, 1, 0), (0, 1, 0), (1, 1, 0), (0, 1, 1)]
        self.assertEqual(givers(setup, series), [(1,), (0, 1), (0, 1), (0, 1)])
        self.assertEqual(givers(two_makers(PLAIN, CAREFUL, (1, 1)), series), [(0,), (0, 1), (0, 1), (0, 1)])
        self.assertEqual(givers(two_makers(CAREFUL, CAREFUL, (1, 1)), series), [()] * 4)

    def test_eight_numbers(self):
        setup = two_makers(PLAIN, PLAIN, (2, 2))
        self.assertEqual(givers(setup, [(0, 2, 0)] * 8), [(0, 1)] * 8)
        self.assertEqual(givers(two_makers(PLAIN, PLAIN, (2, 1)), [(0, 2, 0), (0, 1, 0)] * 4), [(0,), (1,)] * 4)
        self.assertEqual(givers(one_maker(PLAIN), [(0, 3, 0)] * 8), [(0,)] * 8)


class SeriesErrors(unittest.TestCase):
    def wrong_index(self, function, numbers, setup=None):
        with self.assertRaises(InvalidSeries) as caught:
            function(setup or one_maker(PLAIN), numbers)
        return caught.exception.index

    def test_the_index_of_the_first_that_is_no_number(self):
        good = (0, 3, 0)
        for function, wrong in product((ends_behind, givers), NO_NUMBERS):
            with self.subTest(function=function.__name__, wrong=wrong):
                self.assertEqual(self.wrong_index(function, [wrong]), 0)
                self.assertEqual(self.wrong_index(function, [good, wrong, wrong]), 1)
                self.assertEqual(self.wrong_index(function, [good] * 7 + [wrong]), 7)
                self.assertEqual(self.wrong_index(function, [(9, 9, 9), wrong], two_makers(PLAIN, CAREFUL)), 1)

    def test_the_index_of_the_ninth(self):
        good = (0, 3, 0)
        for function in (ends_behind, givers):
            self.assertEqual(self.wrong_index(function, [good] * 9), 8)
            self.assertEqual(self.wrong_index(function, [good] * 30), 8)
            self.assertEqual(self.wrong_index(function, [good] * 8 + [None]), 8)
            self.assertEqual(self.wrong_index(function, [good] * 9 + [None]), 8)
            self.assertEqual(self.wrong_index(function, [good] * 3 + [()] + [good] * 9), 3)


class Logs(unittest.TestCase):
    def setups(self):
        yield one_maker(CAREFUL, **SMALL), 6
        yield one_maker(LOSING, **SMALL), 6
        yield one_maker(("trust", "borrow", "saved")), 4
        yield two_makers(PLAIN, CAREFUL, (1, 1), **SMALL), 4
        yield two_makers(CAREFUL, BORROWING, (1, 3), **SMALL), 4
        yield two_makers(LOSING, ("hold", "refuse", "wait"), (1, 1), top=2, limit=0, back=1, ahead=2), 4

    def test_no_entries(self):
        for setup, _ in self.setups():
            self.assertEqual(log_way(setup, []), [])
            self.assertIsNone(first_wrong(setup, []))

    def test_logs_that_histories_gave(self):
        for setup, longest in self.setups():
            wanted = {}
            for history, _, _ in plain.written_out(setup, longest):
                wanted.setdefault(tuple(log_of(setup, history)), history)
            self.assertGreater(len(wanted), 10)
            for log, history in wanted.items():
                self.assertEqual(log_way(setup, list(log)), history)
                self.assertIsNone(first_wrong(setup, list(log)))

    def test_logs_that_are_changed_against_a_plain_search(self):
        wrong = set()
        for setup, _ in self.setups():
            logs = sorted(
                {tuple(log_of(setup, history)) for history, _, _ in plain.written_out(setup, 4)},
                key=lambda log: (len(log), str(log)),
            )
            entries = sorted({entry for log in logs for entry in log}, key=str) + [(0, None), (0, (0, 0, 0))]
            for log in logs[::7]:
                for at, entry in product(range(len(log)), entries[::2] + entries[-2:]):
                    changed = [*log[:at], entry, *log[at + 1:]]
                    with self.subTest(changed):
                        self.assertEqual(log_way(setup, changed), plain.plain_log_way(setup, changed))
                        found = first_wrong(setup, changed)
                        self.assertEqual(found, plain.plain_first_wrong(setup, changed))
                        wrong.add(found)
        self.assertLessEqual({None, 0, 1, 2, 3}, wrong)

    def test_entries_with_none(self):
        setup = one_maker(CAREFUL)
        self.assertEqual(log_way(setup, [(0, None)]), None)
        self.assertEqual(first_wrong(setup, [(0, None)]), 0)
        log = [(0, (0, 3, 0)), (0, None)]
        self.assertEqual(log_way(setup, log), [("give", 0), ("restart", 0), ("give", 0)])
        self.assertIsNone(first_wrong(setup, log))
        setup = one_maker(LOSING, **SMALL)
        log = [(0, (1, 3, 0)), (0, None), (0, None), (0, (1, 3, 0))]
        history = [
            ("clock", 0, 1), ("give", 0), ("clock", 0, 0), ("give", 0), ("give", 0), ("clock", 0, 1), ("give", 0),
        ]
        self.assertEqual(log_way(setup, log), history)

    def test_no_other_event_with_give_is_in_the_history(self):
        # A counter of 1 comes about behind a number with 0 only, which would be in the log.
        setup = one_maker(("refuse", "refuse", "saved"))
        self.assertIsNone(log_way(setup, [(0, (0, 3, 1))]))
        # A reading is borrowed behind another number only, and none is given behind a number only.
        setup = two_makers(CAREFUL, CAREFUL, (1, 2), **SMALL)
        self.assertIsNone(log_way(setup, [(0, (0, 1, 0)), (1, None)]))
        self.assertEqual(first_wrong(setup, [(0, (0, 1, 0)), (1, None), (0, (5, 5, 5))]), 1)

    def test_of_several_shortest_ones_the_first_in_list_order(self):
        setup = two_makers(PLAIN, PLAIN, (1, 2))
        self.assertEqual(log_way(setup, [(1, (1, 2, 0)), (0, (2, 1, 0))]), [
            ("clock", 0, 2), ("clock", 1, 1), ("give", 1), ("give", 0),
        ])
        setup = one_maker(CAREFUL, limit=0)
        self.assertEqual(log_way(setup, [(0, (1, 3, 0)), (0, None), (0, (2, 3, 0))]), [
            ("clock", 0, 1), ("give", 0), ("give", 0), ("clock", 0, 2), ("give", 0),
        ])

    def test_a_maker_gives_with_its_own_mark(self):
        setup = two_makers(PLAIN, PLAIN, (1, 2))
        self.assertEqual(log_way(setup, [(1, (0, 2, 0))]), [("give", 1)])
        self.assertIsNone(log_way(setup, [(1, (0, 1, 0))]))
        self.assertEqual(first_wrong(setup, [(1, (0, 2, 0)), (0, (0, 2, 0))]), 1)

    def test_eight_entries(self):
        full = [(0, (0, 3, 0)), (0, (0, 3, 1))] * 4
        self.assertEqual(log_way(one_maker(PLAIN), full), [("give", 0)] * 8)
        self.assertIsNone(first_wrong(one_maker(PLAIN), full))
        self.assertEqual(first_wrong(one_maker(PLAIN), full[:7] + [(0, None)]), 7)
        setup = two_makers(CAREFUL, BORROWING, (3, 3), limit=0)
        history = [
            ("give", 0), ("give", 0), ("give", 1), ("give", 1), ("clock", 0, 2), ("give", 0), ("give", 1),
            ("give", 1), ("restart", 0), ("give", 0),
        ]
        log = log_of(setup, history)
        self.assertEqual(len(log), 8)
        self.assertEqual(log_way(setup, log), plain.plain_log_way(setup, log))
        self.assertIsNone(first_wrong(setup, log))


class LogErrors(unittest.TestCase):
    def wrong_index(self, function, log, setup=None):
        with self.assertRaises(InvalidLog) as caught:
            function(setup or one_maker(PLAIN), log)
        return caught.exception.index

    def test_the_index_of_the_first_entry_that_is_none(self):
        good = (0, (0, 3, 0))
        for function, wrong in product((log_way, first_wrong), NO_ENTRIES):
            for setup in (one_maker(PLAIN), two_makers(PLAIN, CAREFUL)):
                with self.subTest(function=function.__name__, wrong=wrong):
                    self.assertEqual(self.wrong_index(function, [wrong], setup), 0)
                    self.assertEqual(self.wrong_index(function, [good, wrong, wrong], setup), 1)
                    self.assertEqual(self.wrong_index(function, [good] * 7 + [wrong], setup), 7)
                    # An entry that cannot come about is an entry all the same.
                    self.assertEqual(self.wrong_index(function, [(0, (9, 9, 9)), (0, None), wrong], setup), 2)

    def test_the_second_maker_is_there_with_two_only(self):
        for function in (log_way, first_wrong):
            self.assertEqual(self.wrong_index(function, [(0, None), (1, None)]), 1)
            self.assertEqual(self.wrong_index(function, [(1, (0, 3, 0))]), 0)
            function(two_makers(PLAIN, CAREFUL), [(0, None), (1, None)])

    def test_the_index_of_the_ninth(self):
        good = (0, (0, 3, 0))
        for function in (log_way, first_wrong):
            function(one_maker(PLAIN), [good] * 8)
            self.assertEqual(self.wrong_index(function, [good] * 9), 8)
            self.assertEqual(self.wrong_index(function, [good] * 30), 8)
            self.assertEqual(self.wrong_index(function, [good] * 8 + [None]), 8)
            self.assertEqual(self.wrong_index(function, [good] * 9 + [None]), 8)
            self.assertEqual(self.wrong_index(function, [good] * 3 + [()] + [good] * 9), 3)


class Package(unittest.TestCase):
    def test_what_is_handed_in_is_the_same_behind_the_call(self):
        setup, like = two_makers(PLAIN, CAREFUL, (2, 2), **SMALL), two_makers(PLAIN, CAREFUL, (2, 2), **SMALL)
        for function, rows in (
            (ends_behind, ([(0, 2, 0), (1, 2, 0)], [(1, 2, 0), (5, 5, 5)], [], [(0, 2, 0), [0, 2, 0]], [None] * 9)),
            (givers, ([(0, 2, 0), (1, 2, 0)], [(1, 2, 0), (5, 5, 5)], [], [(0, 2, 0), [0, 2, 0]], [None] * 9)),
            (log_way, ([(0, (0, 2, 0)), (1, None)], [(0, (0, 2, 0))], [], [(0, [0, 2, 0])], [None] * 9)),
            (first_wrong, ([(0, (0, 2, 0)), (1, None)], [(0, (0, 2, 0))], [], [(0, [0, 2, 0])], [None] * 9)),
        ):
            for row in rows:
                before = copy.deepcopy(row)
                try:
                    function(setup, row)
                except (InvalidSeries, InvalidLog):
                    pass
                self.assertEqual(row, before)
        self.assertEqual(setup, like)

    def test_returned_lists_are_the_callers(self):
        for setup in (one_maker(PLAIN), two_makers(PLAIN, CAREFUL, (3, 1), **SMALL)):
            for call in (
                lambda: ends_behind(setup, []), lambda: ends_behind(setup, [(0, 3, 0)]), lambda: givers(setup, []),
                lambda: givers(setup, [(0, 3, 0)]), lambda: log_way(setup, []),
                lambda: log_way(setup, [(0, (1, 3, 0))]),
            ):
                found = call()
                before = list(found)
                found.append("changed")
                self.assertEqual(call(), before)
                found.clear()
                self.assertEqual(call(), before)

    def test_lists_that_are_handed_in_are_not_kept(self):
        setup = one_maker(PLAIN)
        numbers, log = [(0, 3, 0)], [(0, (0, 3, 0))]
        told = [ends_behind(setup, numbers), givers(setup, numbers), log_way(setup, log)]
        numbers.append((9, 9, 9))
        log.append((0, None))
        self.assertEqual(told, [[((0, 0, 0, -1),)], [(0,)], [("give", 0)]])
        self.assertEqual(ends_behind(setup, numbers), [])
        self.assertEqual(first_wrong(setup, log), 1)
