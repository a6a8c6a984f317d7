import copy
import unittest
from itertools import product

from manymakers import ways
from manymakers.errors import InvalidNumber, InvalidSeries, InvalidStanding
from manymakers.events import begin, run
from manymakers.ways import number_way, series_way, standings, way_to
from tests import plain
from tests.makers import ALL_WORDS, NO_NUMBERS, one_maker, states, two_makers

PLAIN = ("trust", "wrap", "forget")
CAREFUL = ("refuse", "refuse", "wait")
BORROWING = ("hold", "borrow", "saved")
BOUNDS = [
    {"top": top, "limit": limit, "back": back, "ahead": ahead}
    for top in (1, 2) for limit in (0, 1) for back in (0, 1, 2) for ahead in (1, 2)
]
FEW_BOUNDS = BOUNDS[::5] + [BOUNDS[-1]]
PAIRS = [
    (PLAIN, CAREFUL), (CAREFUL, CAREFUL), (BORROWING, PLAIN), (("hold", "refuse", "wait"), BORROWING),
    (("refuse", "wrap", "saved"), ("trust", "borrow", "wait")),
]
SMALL = {"top": 1, "limit": 0, "back": 1, "ahead": 1}


class Interface(unittest.TestCase):
    def test_functions_are_defined_where_they_are_listed(self):
        for function in (standings, way_to, number_way, series_way):
            self.assertEqual(function.__module__, ways.__name__)

    def test_parameters_have_the_names_of_the_document(self):
        setup = one_maker(CAREFUL)
        self.assertEqual(way_to(setup=setup, standing=standings(setup=setup)[0]), [])
        self.assertEqual(number_way(setup=setup, number=(0, 3, 0)), [("give", 0)])
        self.assertEqual(series_way(setup=setup, numbers=[(0, 3, 0)]), [("give", 0)])


class Standings(unittest.TestCase):
    def test_one_maker_with_each_plan_and_all_bounds_against_a_plain_search(self):
        for words in ALL_WORDS:
            for bounds in BOUNDS:
                with self.subTest(words=words, bounds=bounds):
                    setup = one_maker(words, **bounds)
                    self.assertEqual(standings(setup), sorted(plain.plain_standings(setup)))

    def test_two_makers_against_a_plain_search(self):
        for one, other in PAIRS:
            for bounds in FEW_BOUNDS:
                for marks in ((1, 3), (2, 2)):
                    with self.subTest(one=one, other=other, bounds=bounds, marks=marks):
                        setup = two_makers(one, other, marks, **bounds)
                        self.assertEqual(standings(setup), sorted(plain.plain_standings(setup)))

    def test_written_out_for_a_small_set_up(self):
        setup = one_maker(CAREFUL, top=1, limit=0, back=0, ahead=1)
        self.assertEqual(standings(setup), [
            ((0, -1, 0, -1),), ((0, -1, 0, 0),), ((0, 0, 0, 0),), ((1, -1, 0, -1),), ((1, -1, 0, 0),),
            ((1, -1, 0, 1),), ((1, 0, 0, 0),), ((1, 1, 0, 1),),
        ])


class WaysTo(unittest.TestCase):
    def check_all(self, setup, formed):
        """Check the ways to all standings that can come about, and to those of the form that cannot."""
        found = plain.plain_standings(setup)
        for standing in formed:
            way = way_to(setup, standing)
            self.assertEqual(way, found.get(standing), standing)
            if way is not None:
                self.assertEqual(run(setup, way)[0], standing)
        self.assertLessEqual(set(found), set(formed))
        return len(formed) - len(found)

    def test_one_maker_with_each_plan(self):
        for words in ALL_WORDS:
            for bounds in FEW_BOUNDS:
                with self.subTest(words=words, bounds=bounds):
                    formed = [(state,) for state in states(words, bounds["top"], bounds["limit"])]
                    unreached = self.check_all(one_maker(words, **bounds), formed)
                    # With "forget" all of them may come about; else what is saved is what was given last.
                    if words[2] != "forget":
                        self.assertGreater(unreached, 0)

    def test_two_makers(self):
        for (one, other), bounds in product(PAIRS, (SMALL, {**SMALL, "back": 0, "ahead": 2})):
            with self.subTest(one=one, other=other, bounds=bounds):
                formed = list(product(states(one, 1, 0), states(other, 1, 0)))
                self.assertGreater(self.check_all(two_makers(one, other, **bounds), formed), 0)

    def test_two_makers_with_wide_bounds(self):
        setup = two_makers(BORROWING, ("trust", "wrap", "wait"), (2, 2))
        for standing, way in list(plain.plain_standings(setup).items())[::3]:
            self.assertEqual(way_to(setup, standing), way, standing)

    def test_the_least_length_and_the_first_in_list_order_of_all_histories(self):
        for setup in (one_maker(CAREFUL, **SMALL), one_maker(BORROWING, limit=0), two_makers(PLAIN, CAREFUL, **SMALL)):
            wanted = {}
            for history, standing, _ in plain.written_out(setup, 4):
                wanted.setdefault(standing, history)
            for standing, history in wanted.items():
                self.assertEqual(way_to(setup, standing), history)

    def test_the_beginning_is_reached_by_no_events(self):
        for setup in (one_maker(PLAIN), two_makers(CAREFUL, BORROWING)):
            self.assertEqual(way_to(setup, begin(setup)), [])

    def test_events_of_two_makers_are_in_list_order(self):
        setup = two_makers(CAREFUL, CAREFUL, **SMALL)
        self.assertEqual(
            way_to(setup, ((1, -1, 0, 0), (1, 1, 0, 1))),
            [("clock", 1, 1), ("give", 0), ("clock", 0, 1), ("give", 1), ("restart", 0)],
        )

    def test_none_for_what_has_the_form_but_cannot_come_about(self):
        # A clock that never runs back is not below a reading that it showed when this was given.
        self.assertIsNone(way_to(one_maker(PLAIN, back=0), ((0, 1, 0, -1),)))
        self.assertIsNone(way_to(one_maker(CAREFUL), ((0, 0, 0, -1),)))
        self.assertIsNone(way_to(one_maker(CAREFUL), ((0, 1, 0, 2),)))
        setup = two_makers(PLAIN, CAREFUL)
        self.assertIsNone(way_to(setup, ((0, -1, 0, -1), (0, 0, 0, -1))))
        self.assertIsNone(way_to(two_makers(CAREFUL, PLAIN), ((0, 0, 0, -1), (0, -1, 0, -1))))

    def test_what_is_no_standing(self):
        good = (0, -1, 0, -1)
        for standing in (
            (), (good, good), [good], good, None, 0, "", (None,), (list(good),), (good[:3],), (good + (0,),),
            ((-1, -1, 0, -1),), ((2, -1, 0, -1),), ((0, -2, 0, -1),), ((0, 2, 0, -1),), ((0, -1, 1, -1),),
            ((0, 0, 1, -1),), ((0, 0, -1, -1),), ((0, 0, 0, 0),), ((True, 0, 0, -1),), ((0, False, 0, -1),),
            ((0, 0, False, -1),), ((0, 0, 0, None),),
        ):
            with self.subTest(standing=standing), self.assertRaises(InvalidStanding):
                way_to(one_maker(PLAIN, **SMALL), standing)
        for standing in ((good,), (good, good, good), (good, (0, 0, 0, 0)), ((0, 0, 0, 2), good), (good, None)):
            with self.subTest(standing=standing), self.assertRaises(InvalidStanding):
                way_to(two_makers(CAREFUL, PLAIN, **SMALL), standing)


class NumberWays(unittest.TestCase):
    def test_each_number_of_one_maker_against_a_plain_search(self):
        for words in ALL_WORDS:
            for bounds in FEW_BOUNDS:
                setup = one_maker(words, **bounds)
                plainly = plain.plain_number_ways(setup)
                for number in product(range(4), (2, 3), range(3)):
                    with self.subTest(words=words, bounds=bounds, number=number):
                        self.assertEqual(number_way(setup, number), plainly(number))

    def test_two_makers_with_marks_alike_and_unlike_against_a_plain_search(self):
        for one, other in PAIRS:
            for marks in ((1, 1), (1, 3), (3, 1)):
                for bounds in (SMALL, {"top": 2, "limit": 1, "back": 1, "ahead": 1}):
                    setup = two_makers(one, other, marks, **bounds)
                    plainly = plain.plain_number_ways(setup)
                    for number in product(range(3), (1, 3), range(2)):
                        with self.subTest(one=one, other=other, marks=marks, number=number):
                            self.assertEqual(number_way(setup, number), plainly(number))

    def test_the_first_of_all_histories_at_whose_end_it_is_given(self):
        for setup in (one_maker(BORROWING), two_makers(BORROWING, PLAIN, (3, 3), **SMALL)):
            wanted = {}
            for history, _, _ in plain.written_out(setup, 4):
                given = run(setup, history)[1]
                if history and history[-1][0] == "give" and given[-1] is not None:
                    wanted.setdefault(given[-1], history)
            self.assertGreater(len(wanted), 1)
            for number, history in wanted.items():
                self.assertEqual(number_way(setup, number), history)

    def test_numbers_that_come_about_in_one_way_only(self):
        self.assertEqual(number_way(one_maker(PLAIN), (0, 3, 0)), [("give", 0)])
        self.assertEqual(number_way(one_maker(PLAIN), (2, 3, 1)), [("clock", 0, 2), ("give", 0), ("give", 0)])
        self.assertEqual(number_way(one_maker(BORROWING, limit=0), (1, 3, 0)), [("clock", 0, 1), ("give", 0)])
        self.assertEqual(number_way(two_makers(PLAIN, PLAIN), (0, 3, 0)), [("give", 1)])
        self.assertEqual(number_way(two_makers(PLAIN, PLAIN, (2, 2)), (0, 2, 0)), [("give", 0)])

    def test_numbers_that_cannot_come_about(self):
        for number in ((3, 3, 0), (0, 3, 2), (0, 2, 0), (0, 4, 0), (10 ** 30, 3, 0), (0, 10 ** 30, 0), (0, 3, 10 ** 30)):
            self.assertIsNone(number_way(one_maker(PLAIN), number))
        self.assertIsNone(number_way(one_maker(PLAIN, limit=0), (0, 3, 1)))
        self.assertIsNone(number_way(two_makers(PLAIN, PLAIN), (0, 2, 0)))

    def test_what_is_no_number(self):
        for number in NO_NUMBERS:
            for setup in (one_maker(PLAIN), two_makers(PLAIN, CAREFUL)):
                with self.subTest(number=number), self.assertRaises(InvalidNumber):
                    number_way(setup, number)


class SeriesWays(unittest.TestCase):
    def wrong_index(self, numbers, setup=None):
        with self.assertRaises(InvalidSeries) as caught:
            series_way(setup or one_maker(PLAIN), numbers)
        return caught.exception.index

    def test_no_numbers(self):
        self.assertEqual(series_way(one_maker(PLAIN), []), [])
        self.assertEqual(series_way(two_makers(PLAIN, CAREFUL), []), [])

    def test_all_short_series_of_one_maker_against_a_plain_search(self):
        numbers = list(product(range(2), (3,), range(2))) + [(2, 3, 0), (0, 1, 0)]
        for words in ALL_WORDS:
            setup = one_maker(words, top=1)
            for series in product(numbers, repeat=2):
                with self.subTest(words=words, series=series):
                    self.assertEqual(series_way(setup, list(series)), plain.plain_series_way(setup, series))

    def test_two_makers_against_a_plain_search(self):
        for one, other in PAIRS:
            for marks in ((1, 1), (1, 3), (3, 1)):
                setup = two_makers(one, other, marks, **SMALL)
                numbers = [(reading, mark, 0) for reading in (0, 1) for mark in sorted(set(marks))]
                for series in product(numbers, repeat=3):
                    with self.subTest(one=one, other=other, marks=marks, series=series):
                        self.assertEqual(series_way(setup, list(series)), plain.plain_series_way(setup, series))

    def test_the_first_of_all_histories_in_which_just_these_are_given(self):
        for setup in (one_maker(("trust", "borrow", "saved")), two_makers(PLAIN, CAREFUL, (2, 2), **SMALL)):
            wanted = {}
            for history, _, given in plain.written_out(setup, 5):
                wanted.setdefault(tuple(number for _, number in given), history)
            self.assertGreater(len(wanted), 10)
            for series, history in wanted.items():
                self.assertEqual(series_way(setup, list(series)), history)

    def test_eight_numbers(self):
        full = [(0, 3, 0), (0, 3, 1)] * 4
        self.assertEqual(series_way(one_maker(PLAIN), full), [("give", 0)] * 8)
        setup = two_makers(PLAIN, CAREFUL, (3, 3), back=1)
        for series in (
            [(0, 3, 0), (0, 3, 0), (0, 3, 1), (0, 3, 1), (1, 3, 0), (2, 3, 0), (2, 3, 1), (2, 3, 0)],
            [(2, 3, 0), (2, 3, 1), (0, 3, 0), (1, 3, 0), (1, 3, 0), (0, 3, 0), (2, 3, 0), (2, 3, 1)],
            [(0, 3, 1)] * 8, [(2, 3, 0)] * 8, [(0, 3, 0)] * 7 + [(0, 3, 2)],
        ):
            found = series_way(setup, series)
            self.assertEqual(found, plain.plain_series_way(setup, series))
            if found is not None:
                self.assertEqual([number for number in run(setup, found)[1] if number is not None], series)

    def test_series_that_cannot_come_about(self):
        self.assertIsNone(series_way(one_maker(CAREFUL), [(0, 3, 0), (0, 3, 0)]))
        self.assertIsNone(series_way(one_maker(CAREFUL), [(1, 3, 0), (0, 3, 0)]))
        self.assertIsNone(series_way(one_maker(PLAIN), [(0, 3, 1)]))
        self.assertIsNone(series_way(one_maker(PLAIN), [(0, 3, 0), (0, 2, 0)]))
        self.assertIsNone(series_way(one_maker(PLAIN), [(10 ** 20, 3, 0)]))

    def test_no_other_number_is_given_in_between(self):
        # Without a restart the counter 1 follows the counter 0 only.
        setup = one_maker(("refuse", "refuse", "saved"))
        self.assertEqual(series_way(setup, [(0, 3, 0), (0, 3, 1)]), [("give", 0), ("give", 0)])
        self.assertIsNone(series_way(setup, [(0, 3, 1)]))
        self.assertIsNone(series_way(setup, [(0, 3, 0), (1, 3, 1)]))

    def test_none_given_between_two_numbers_is_no_number(self):
        # At the lower reading this maker gives none when it is told to, which is not in the series that it gives.
        setup = one_maker(("refuse", "wrap", "forget"), **SMALL)
        history = [("clock", 0, 1), ("give", 0), ("clock", 0, 0), ("give", 0), ("clock", 0, 1), ("give", 0)]
        series = [(1, 3, 0), (1, 3, 0)]
        self.assertEqual(run(setup, history)[1], [(1, 3, 0), None, (1, 3, 0)])
        self.assertEqual(series_way(setup, series), [("clock", 0, 1), ("give", 0), ("give", 0)])
        self.assertEqual(self.wrong_index([(1, 3, 0), None, (1, 3, 0)], setup), 1)

    def test_the_index_of_the_first_that_is_no_number(self):
        good = (0, 3, 0)
        for wrong in NO_NUMBERS:
            with self.subTest(wrong=wrong):
                self.assertEqual(self.wrong_index([wrong]), 0)
                self.assertEqual(self.wrong_index([good, wrong, wrong]), 1)
                self.assertEqual(self.wrong_index([good] * 7 + [wrong]), 7)
                self.assertEqual(self.wrong_index([good, wrong], two_makers(PLAIN, CAREFUL)), 1)

    def test_a_number_that_cannot_be_given_is_told_behind_one_that_is_none(self):
        self.assertEqual(self.wrong_index([(9, 9, 9), (9, 9, 9), None]), 2)

    def test_the_index_of_the_ninth(self):
        good = (0, 3, 0)
        self.assertEqual(self.wrong_index([good] * 9), 8)
        self.assertEqual(self.wrong_index([good] * 20), 8)
        self.assertEqual(self.wrong_index([good] * 8 + [None]), 8)
        self.assertEqual(self.wrong_index([good] * 9 + [None]), 8)
        self.assertEqual(self.wrong_index([good] * 3 + [()] + [good] * 9), 3)
        self.assertEqual(self.wrong_index([(9, 9, 9)] * 9), 8)


class Package(unittest.TestCase):
    def test_what_is_handed_in_is_the_same_behind_the_call(self):
        setup = two_makers(PLAIN, CAREFUL, (2, 2), **SMALL)
        like = two_makers(PLAIN, CAREFUL, (2, 2), **SMALL)
        for numbers in ([(0, 2, 0), (1, 2, 0)], [(1, 2, 0), (5, 5, 5)], []):
            before = copy.deepcopy(numbers)
            series_way(setup, numbers)
            self.assertEqual(numbers, before)
        wrong = [(0, 2, 0), [0, 2, 0]]
        with self.assertRaises(InvalidSeries):
            series_way(setup, wrong)
        self.assertEqual(wrong, [(0, 2, 0), [0, 2, 0]])
        standings(setup), way_to(setup, begin(setup)), number_way(setup, (0, 2, 0))
        self.assertEqual(setup, like)

    def test_numbers_are_not_kept(self):
        setup = one_maker(PLAIN)
        numbers = [(0, 3, 0)]
        found = series_way(setup, numbers)
        numbers.append((0, 3, 1))
        self.assertEqual(found, [("give", 0)])
        self.assertEqual(series_way(setup, numbers), [("give", 0)] * 2)

    def test_returned_lists_are_the_callers(self):
        for setup in (one_maker(CAREFUL), two_makers(CAREFUL, PLAIN, **SMALL)):
            target = standings(setup)[-1]
            for call in (
                lambda: standings(setup), lambda: way_to(setup, target), lambda: way_to(setup, begin(setup)),
                lambda: number_way(setup, (0, setup.marks[0], 0)), lambda: series_way(setup, []),
                lambda: series_way(setup, [(0, setup.marks[0], 0)]),
            ):
                found = call()
                before = list(found)
                found.append("changed")
                self.assertEqual(call(), before)
                found.clear()
                self.assertEqual(call(), before)
