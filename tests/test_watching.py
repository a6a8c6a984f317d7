import copy
import unittest
from itertools import product

from manymakers import watching
from manymakers.errors import InvalidNumber, NoHistory
from manymakers.events import begin, run
from manymakers.telling import ends_behind, givers
from manymakers.watching import Watcher
from tests import plain
from tests.makers import ALL_WORDS, NO_NUMBERS, one_maker, two_makers

PLAIN = ("trust", "wrap", "forget")
CAREFUL = ("refuse", "refuse", "wait")
BORROWING = ("hold", "borrow", "saved")
LOSING = ("refuse", "wrap", "forget")
PAIRS = [
    (PLAIN, CAREFUL), (CAREFUL, CAREFUL), (BORROWING, PLAIN), (("hold", "refuse", "wait"), BORROWING),
    (("refuse", "wrap", "saved"), ("trust", "borrow", "wait")),
]
SMALL = {"top": 1, "limit": 0, "back": 1, "ahead": 1}


def watched(setup, numbers):
    watcher = Watcher(setup)
    for number in numbers:
        watcher.seen(number)
    return watcher


def told(watcher):
    """Return all that a watcher tells."""
    return [
        watcher.standings_left, watcher.told_so_far, watcher.next_numbers(), watcher.sure_giver(), watcher.sure_parts(),
    ]


def parts_alike(standings):
    """Return what sure_parts returns, part by part."""
    found = []
    for maker in range(len(standings[0])):
        parts = [{standing[maker][at] for standing in standings} for at in range(4)]
        found.append(tuple(part.pop() if len(part) == 1 else None for part in parts))
    return tuple(found)


class Interface(unittest.TestCase):
    def test_the_class_and_its_methods_are_defined_where_they_are_listed(self):
        self.assertEqual(Watcher.__module__, watching.__name__)
        for name in ("standings_left", "told_so_far"):
            self.assertIsInstance(vars(Watcher)[name], property)
        for name in ("__init__", "seen", "next_numbers", "sure_giver", "sure_parts"):
            self.assertTrue(callable(vars(Watcher)[name]))

    def test_parameters_have_the_names_of_the_document(self):
        self.assertEqual(Watcher(setup=one_maker(PLAIN)).seen(number=(0, 3, 0)), 1)

    def test_properties_cannot_be_put_in_from_outside(self):
        for name in ("standings_left", "told_so_far"):
            with self.assertRaises(AttributeError):
                setattr(Watcher(one_maker(PLAIN)), name, [])


class WrittenOut(unittest.TestCase):
    """Compares with all histories of up to so many events, which suffice for series as short as those here."""

    def check(self, setup, longest, most):
        ends, makers, following = {(): {begin(setup)}}, {(): set()}, {}
        for history, standing, given in plain.written_out(setup, longest):
            series = tuple(number for _, number in given)
            if series and len(series) <= most and history[-1][0] == "give" and run(setup, history)[1][-1] is not None:
                ends.setdefault(series, set()).add(standing)
                makers.setdefault(series, set()).add(given[-1][0])
                following.setdefault(series[:-1], set()).add(series[-1])
        numbers = sorted({number for series in ends for number in series} | {(1, 0, 0), (7, 1, 0)})
        for series in ends:
            watcher = Watcher(setup)
            for at, number in enumerate(series):
                self.assertEqual(watcher.seen(number), len(ends[series[:at + 1]]), series)
            self.assertEqual(watcher.standings_left, sorted(ends[series]), series)
            self.assertEqual(watcher.told_so_far, list(series))
            self.assertEqual(watcher.sure_giver(), min(makers[series]) if len(makers[series]) == 1 else None, series)
            self.assertEqual(watcher.sure_parts(), parts_alike(sorted(ends[series])), series)
            if len(series) < most:
                self.assertEqual(watcher.next_numbers(), sorted(following.get(series, ())), series)
                for number in numbers:
                    if number not in following.get(series, ()):
                        with self.assertRaises(NoHistory):
                            watcher.seen(number)

    def test_one_maker(self):
        for words in ALL_WORDS:
            with self.subTest(words):
                self.check(one_maker(words, **SMALL), 8, 2)
        self.check(one_maker(LOSING, top=1, limit=1, back=1, ahead=1), 8, 2)
        self.check(one_maker(BORROWING, top=2, limit=0, back=1, ahead=2), 7, 2)

    def test_two_makers_with_marks_alike_and_unlike(self):
        for one, other in PAIRS[:4]:
            for marks in ((1, 1), (1, 3), (3, 1)):
                with self.subTest(one=one, other=other, marks=marks):
                    self.check(two_makers(one, other, marks, **SMALL), 5, 1)
        for marks in ((1, 1), (3, 1)):
            self.check(two_makers(PLAIN, CAREFUL, marks, top=1, limit=0, back=0, ahead=1), 6, 2)


class Seen(unittest.TestCase):
    def test_against_a_plain_search(self):
        for (one, other), marks in product(PAIRS, ((1, 1), (1, 3), (3, 1))):
            setup = two_makers(one, other, marks, **SMALL)
            numbers = [(reading, mark, 0) for reading in (0, 1) for mark in sorted(set(marks))]
            for series in list(product(numbers, repeat=2)) + list(product(numbers, repeat=3))[::3]:
                with self.subTest(one=one, other=other, marks=marks, series=series):
                    watcher, wanted = Watcher(setup), None
                    for at, number in enumerate(series):
                        wanted = plain.plain_ends_behind(setup, series[:at + 1])
                        if not wanted:
                            with self.assertRaises(NoHistory):
                                watcher.seen(number)
                            break
                        self.assertEqual(watcher.seen(number), len(wanted))
                        self.assertEqual(watcher.standings_left, wanted)
                        last = plain.plain_givers(setup, series[:at + 1])[-1]
                        self.assertEqual(watcher.sure_giver(), last[0] if len(last) == 1 else None)

    def test_at_the_beginning(self):
        for setup in (one_maker(PLAIN), two_makers(CAREFUL, PLAIN, (0, 2))):
            watcher = Watcher(setup)
            self.assertEqual(watcher.standings_left, [begin(setup)])
            self.assertEqual([watcher.told_so_far, watcher.sure_giver()], [[], None])
            self.assertEqual(watcher.sure_parts(), begin(setup))
            self.assertEqual(watcher.next_numbers(), sorted(
                (reading, mark, 0) for reading in range(3) for mark in setup.marks
            ))

    def test_as_ends_behind_tells(self):
        setup = two_makers(PLAIN, BORROWING, (3, 3), top=2, limit=1, back=1, ahead=2)
        for series in (
            [(0, 3, 0), (0, 3, 0), (0, 3, 1), (0, 3, 1), (1, 3, 0), (2, 3, 0)], [(2, 3, 0)] * 8,
            [(1, 3, 0), (1, 3, 1)] * 2,
        ):
            watcher = Watcher(setup)
            for at, number in enumerate(series):
                wanted = ends_behind(setup, series[:at + 1])
                self.assertEqual(watcher.seen(number), len(wanted))
                self.assertEqual(watcher.standings_left, wanted)
                last = givers(setup, series[:at + 1])[-1]
                self.assertEqual(watcher.sure_giver(), last[0] if len(last) == 1 else None)

    def test_more_numbers_than_a_series_has(self):
        watcher = watched(one_maker(PLAIN), [(0, 3, 0), (0, 3, 1)] * 50)
        self.assertEqual(watcher.told_so_far, [(0, 3, 0), (0, 3, 1)] * 50)
        self.assertEqual(watcher.standings_left, [((0, 0, 1, -1),)])
        watcher = watched(two_makers(PLAIN, CAREFUL, (1, 1), **SMALL), [(0, 1, 0)] * 20)
        self.assertEqual([watcher.sure_giver(), watcher.next_numbers()], [None, [(0, 1, 0), (1, 1, 0)]])

    def test_what_is_no_number(self):
        for setup in (one_maker(PLAIN), two_makers(PLAIN, CAREFUL)):
            watcher = watched(setup, [(0, 3, 0)] if len(setup) == 1 else [(0, 1, 0)])
            before = told(watcher)
            for wrong in NO_NUMBERS:
                with self.subTest(wrong=wrong), self.assertRaises(InvalidNumber):
                    watcher.seen(wrong)
                self.assertEqual(watcher.told_so_far, before[1])
            self.assertEqual(told(watcher), before)

    def test_a_number_that_cannot_be_given_changes_nothing(self):
        setup = one_maker(CAREFUL)
        watcher = watched(setup, [(1, 3, 0), (1, 3, 1)])
        before = told(watcher)
        for number in ((1, 3, 0), (1, 3, 1), (0, 3, 0), (2, 2, 0), (2, 3, 1), (3, 3, 0), (2, 3, 10 ** 20)):
            with self.subTest(number=number), self.assertRaises(NoHistory):
                watcher.seen(number)
            self.assertEqual(told(watcher), before)
        self.assertEqual(watcher.seen((2, 3, 0)), 1)
        for number in product(range(4), (2, 3), range(3)):
            if number != (2, 3, 1):
                with self.subTest(number=number), self.assertRaises(NoHistory):
                    watcher.seen(number)
        self.assertEqual(watcher.seen((2, 3, 1)), 1)

    def test_two_watchers_of_one_setup_do_not_touch_each_other(self):
        setup = one_maker(PLAIN)
        one, other = Watcher(setup), Watcher(setup)
        one.seen((2, 3, 0))
        self.assertEqual(told(other), told(Watcher(setup)))


class NextNumbers(unittest.TestCase):
    def test_they_are_just_those_that_are_accepted(self):
        for (one, other), marks in product(PAIRS, ((1, 1), (1, 3))):
            setup = two_makers(one, other, marks, top=1, limit=1, back=1, ahead=1)
            numbers = list(product(range(3), (0, 1, 3), range(3)))
            for series in ([], [(0, 1, 0)], [(1, 1, 0)], [(0, 1, 0), (1, 1, 0)]):
                with self.subTest(one=one, other=other, marks=marks, series=series):
                    accepted = []
                    for number in numbers:
                        watcher = watched(setup, series)
                        try:
                            watcher.seen(number)
                            accepted.append(number)
                        except NoHistory:
                            pass
                    self.assertEqual(watched(setup, series).next_numbers(), accepted)

    def test_none_is_left(self):
        watcher = watched(one_maker(CAREFUL, limit=0), [(2, 3, 0)])
        self.assertEqual(watcher.next_numbers(), [])
        self.assertEqual(watcher.next_numbers(), [])

    def test_behind_a_number(self):
        self.assertEqual(watched(one_maker(CAREFUL), [(1, 3, 0)]).next_numbers(), [(1, 3, 1), (2, 3, 0)])
        found = watched(one_maker(LOSING, back=0), [(1, 3, 0)]).next_numbers()
        self.assertEqual(found, [(1, 3, 0), (1, 3, 1), (2, 3, 0)])
        setup = two_makers(CAREFUL, CAREFUL, (1, 2), limit=0)
        self.assertEqual(watched(setup, [(1, 2, 0)]).next_numbers(), [(0, 1, 0), (1, 1, 0), (2, 1, 0), (2, 2, 0)])


class Sure(unittest.TestCase):
    def test_the_giver_with_one_maker(self):
        watcher = Watcher(one_maker(PLAIN))
        self.assertIsNone(watcher.sure_giver())
        watcher.seen((0, 3, 0))
        self.assertEqual(watcher.sure_giver(), 0)

    def test_the_giver_with_two_makers(self):
        watcher = Watcher(two_makers(CAREFUL, PLAIN, (1, 2)))
        found = []
        for number in ((0, 2, 0), (0, 1, 0), (0, 2, 1)):
            watcher.seen(number)
            found.append(watcher.sure_giver())
        self.assertEqual(found, [1, 0, 1])

    def test_the_giver_with_two_makers_whose_marks_are_alike(self):
        watcher = Watcher(two_makers(CAREFUL, CAREFUL, (1, 1)))
        for number in ((2, 1, 0), (0, 1, 0), (1, 1, 0), (2, 1, 0)):
            watcher.seen(number)
            self.assertIsNone(watcher.sure_giver())
        # Neither of these gives anything lower, and only the second one gives the same again.
        setup = two_makers(("hold", "refuse", "wait"), ("hold", "wrap", "wait"), (1, 1), **SMALL)
        for series, makers in (
            ([(1, 1, 0), (0, 1, 0), (0, 1, 0)], [None, None, 1]), ([(1, 1, 0), (1, 1, 0), (0, 1, 0)], [None, None, 0]),
            ([(0, 1, 0), (1, 1, 0), (0, 1, 0)], [None, None, None]), ([(1, 1, 0)] * 3, [None, None, None]),
        ):
            watcher, found = Watcher(setup), []
            for number in series:
                watcher.seen(number)
                found.append(watcher.sure_giver())
            self.assertEqual(found, makers)

    def test_the_giver_behind_series_of_four_numbers(self):
        setup = two_makers(("hold", "refuse", "wait"), ("hold", "wrap", "saved"), (1, 1), **{**SMALL, "limit": 1})
        sure = set()
        for series in product(product((0, 1), (1,), (0, 1)), repeat=4):
            last = plain.plain_givers(setup, series)[-1]
            if last:
                giver = watched(setup, series).sure_giver()
                self.assertEqual(giver, last[0] if len(last) == 1 else None, series)
                sure.add(giver)
        self.assertEqual(sure, {None, 0, 1})

    def test_parts_that_are_the_same_in_all_standings_and_parts_that_are_not(self):
        watcher = watched(one_maker(("hold", "refuse", "forget"), mark=1), [(2, 1, 0), (2, 1, 1)])
        self.assertEqual(watcher.sure_parts(), ((None, 2, 1, -1),))
        setup = two_makers(CAREFUL, CAREFUL, (0, 1), top=1, limit=0, back=0, ahead=1)
        self.assertEqual(watched(setup, [(0, 1, 0)]).sure_parts(), ((None, -1, 0, -1), (0, 0, 0, 0)))
        self.assertEqual(watched(setup, [(0, 0, 0), (1, 1, 0)]).sure_parts(), ((None, None, 0, 0), (1, 1, 0, 1)))
        watcher = watched(two_makers(CAREFUL, PLAIN, (1, 1), **SMALL), [(0, 1, 0)])
        self.assertEqual(watcher.sure_parts(), ((None, None, 0, None), (None, None, 0, -1)))

    def test_parts_are_tuples(self):
        for setup in (one_maker(PLAIN), two_makers(PLAIN, CAREFUL)):
            found = Watcher(setup).sure_parts()
            self.assertEqual([type(found)] + [type(state) for state in found], [tuple] * (len(setup) + 1))


class Package(unittest.TestCase):
    def test_lists_are_new_for_each_reading(self):
        watcher = watched(two_makers(PLAIN, CAREFUL), [(0, 1, 0), (0, 3, 0)])
        before = copy.deepcopy(told(watcher))
        for call in (lambda: watcher.standings_left, lambda: watcher.told_so_far, watcher.next_numbers):
            found = call()
            self.assertIsNot(found, call())
            found.append("changed")
            found[0] = None
            self.assertEqual(told(watcher), before)
            found.clear()
            self.assertEqual(told(watcher), before)
        watcher.seen((0, 1, 1))
        self.assertEqual(watcher.told_so_far, [(0, 1, 0), (0, 3, 0), (0, 1, 1)])

    def test_asking_changes_nothing(self):
        watcher = watched(two_makers(PLAIN, CAREFUL, (1, 1)), [(0, 1, 0)])
        before = told(watcher)
        self.assertEqual(told(watcher), before)
        self.assertEqual(told(watcher), told(watched(two_makers(PLAIN, CAREFUL, (1, 1)), [(0, 1, 0)])))

    def test_what_is_handed_in_is_the_same_behind_the_call(self):
        setup, like = two_makers(PLAIN, CAREFUL), two_makers(PLAIN, CAREFUL)
        watcher = Watcher(setup)
        wrong = [0, 1, 0]
        with self.assertRaises(InvalidNumber):
            watcher.seen(wrong)
        self.assertEqual(wrong, [0, 1, 0])
        told(watched(setup, [(0, 1, 0), (0, 3, 0)]))
        self.assertEqual(setup, like)
