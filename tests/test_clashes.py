import unittest
from itertools import product

from manymakers import clashes
from manymakers.clashes import clash, disorder, history_count, most_numbers, orderly_plans, parting, safe_plans
from manymakers.errors import InvalidCount, InvalidSetup, UnlikeSetups
from manymakers.events import begin, run
from manymakers.setups import Plan, Setup
from tests import plain
from tests.makers import ALL_WORDS, one_maker, two_makers

PLAIN = ("trust", "wrap", "forget")
CAREFUL = ("refuse", "refuse", "wait")
SAVING = ("refuse", "refuse", "saved")
BORROWING = ("hold", "borrow", "saved")
BOUNDS = [
    {"top": top, "limit": limit, "back": back, "ahead": ahead}
    for top in (1, 2) for limit in (0, 1) for back in (0, 1, 2) for ahead in (1, 2)
]
FEW_BOUNDS = BOUNDS[::5] + [BOUNDS[-1]]
SMALL = {"top": 1, "limit": 0, "back": 1, "ahead": 1}
PAIRS = [
    (PLAIN, CAREFUL), (CAREFUL, CAREFUL), (CAREFUL, SAVING), (BORROWING, PLAIN),
    (("hold", "refuse", "wait"), BORROWING), (("refuse", "wrap", "saved"), ("trust", "borrow", "wait")),
    (CAREFUL, ("refuse", "refuse", "forget")), (("trust", "refuse", "saved"), CAREFUL),
]
NO_COUNTS = (-1, 31, -30, 1000, 10 ** 20, True, False, None, "1", 1.0, (1,), [1])


def clashing(given):
    numbers = [number for _, number in given]
    return len(set(numbers)) < len(numbers)


def out_of_order(given):
    last = {}
    for maker, (reading, _, counter) in given:
        if maker in last and (reading, counter) <= last[maker]:
            return True
        last[maker] = (reading, counter)
    return False


def first_written_out(setup, longest, is_so):
    """Return the first of all histories of up to so many events of which something is so, or None."""
    for history, _, given in plain.written_out(setup, longest):
        if is_so(given):
            return history
    return None


class Interface(unittest.TestCase):
    def test_functions_are_defined_where_they_are_listed(self):
        for function in (clash, disorder, safe_plans, orderly_plans, parting, most_numbers, history_count):
            self.assertEqual(function.__module__, clashes.__name__)

    def test_parameters_have_the_names_of_the_document(self):
        setup = one_maker(CAREFUL, **SMALL)
        self.assertEqual([clash(setup=setup), disorder(setup=setup), parting(one=setup, other=setup)], [None] * 3)
        self.assertEqual(most_numbers(setup=setup), 2)
        self.assertEqual(history_count(setup=setup, length=1, given=0), 2)
        bounds = {"top": 1, "limit": 0, "back": 1, "ahead": 1}
        self.assertIn(CAREFUL, safe_plans(**bounds))
        self.assertIn(CAREFUL, orderly_plans(**bounds))


class Searches(unittest.TestCase):
    """What clash and disorder have in common: they are compared with plain searches."""

    def check_against_searches(self, setup, longest):
        for found, plainly, is_so in (
            (clash(setup), plain.plain_clash(setup), clashing),
            (disorder(setup), plain.plain_disorder(setup), out_of_order),
        ):
            self.assertEqual(found, plainly)
            if longest:
                written = first_written_out(setup, longest, is_so)
                self.assertEqual(written, found if found is not None and len(found) <= longest else None)

    def test_one_maker_with_each_plan_and_all_bounds(self):
        for words in ALL_WORDS:
            for bounds in BOUNDS:
                with self.subTest(words=words, bounds=bounds):
                    self.check_against_searches(one_maker(words, **bounds), 0)

    def test_one_maker_against_all_histories_written_out(self):
        for words in ALL_WORDS:
            for bounds in (SMALL, {"top": 2, "limit": 1, "back": 2, "ahead": 2}):
                with self.subTest(words=words, bounds=bounds):
                    self.check_against_searches(one_maker(words, **bounds), 5)

    def test_two_makers_with_marks_alike_and_unlike(self):
        for (one, other), marks in product(PAIRS, ((1, 1), (1, 3), (3, 1))):
            with self.subTest(one=one, other=other, marks=marks):
                self.check_against_searches(two_makers(one, other, marks, **SMALL), 4)
                self.check_against_searches(two_makers(other, one, marks, top=2, limit=0, back=0, ahead=2), 0)


class Clashes(unittest.TestCase):
    def test_by_which_history_some_plans_clash(self):
        give, restart = ("give", 0), ("restart", 0)
        for words, limit, history in (
            (PLAIN, 1, [give] * 3), (PLAIN, 0, [give] * 2), (("refuse", "refuse", "forget"), 1, [give, restart, give]),
            (("refuse", "refuse", "forget"), 0, [give, restart, give]), (CAREFUL, 0, None), (SAVING, 1, None),
            (("hold", "borrow", "forget"), 0, [give, restart, give]), (BORROWING, 0, None),
            (("trust", "refuse", "wait"), 0, [give, ("clock", 0, 1), give, ("clock", 0, 0), give]),
        ):
            with self.subTest(words=words, limit=limit):
                self.assertEqual(clash(one_maker(words, limit=limit, back=1, ahead=1)), history)

    def test_two_makers_that_give_the_same_with_one_mark(self):
        gives = [("give", 0), ("give", 1)]
        self.assertEqual(clash(two_makers(CAREFUL, CAREFUL, (1, 1))), gives)
        self.assertEqual(clash(two_makers(CAREFUL, PLAIN, (0, 0))), gives)
        self.assertEqual(clash(two_makers(PLAIN, PLAIN, (2, 2), limit=0)), [("give", 0), ("give", 0)])
        self.assertEqual(clash(two_makers(CAREFUL, PLAIN, (2, 2), limit=0)), gives)

    def test_two_makers_with_unlike_marks_never_give_the_same(self):
        self.assertIsNone(clash(two_makers(CAREFUL, CAREFUL, (1, 2))))
        self.assertIsNone(clash(two_makers(CAREFUL, SAVING, (3, 0))))
        self.assertEqual(clash(two_makers(CAREFUL, PLAIN, (1, 2))), [("give", 1)] * 3)
        self.assertEqual(clash(two_makers(PLAIN, PLAIN, (2, 1))), [("give", 0)] * 3)

    def test_the_shorter_one_though_it_is_behind_in_list_order(self):
        setup = two_makers(("refuse", "refuse", "forget"), ("trust", "wrap", "wait"), (1, 2), limit=0)
        self.assertEqual(clash(setup), [("give", 1), ("give", 1)])


class Disorders(unittest.TestCase):
    def test_a_number_that_is_not_greater_though_the_maker_does_not_know_of_the_last_one(self):
        setup = one_maker(("refuse", "refuse", "forget"), **SMALL)
        history = [("give", 0), ("restart", 0), ("give", 0)]
        self.assertEqual(run(setup, history[:2])[0], begin(setup))
        self.assertEqual(disorder(setup), history)

    def test_a_lower_number_that_does_not_clash_is_out_of_order(self):
        setup = one_maker(("trust", "refuse", "saved"), limit=0)
        self.assertEqual(disorder(setup), [("clock", 0, 1), ("give", 0), ("clock", 0, 0), ("give", 0)])
        self.assertEqual(len(clash(setup)), 5)

    def test_alike_numbers_of_two_makers_are_not_out_of_order(self):
        for marks in ((1, 1), (1, 2)):
            self.assertIsNone(disorder(two_makers(CAREFUL, CAREFUL, marks)))
            self.assertIsNone(disorder(two_makers(SAVING, BORROWING, marks)))

    def test_the_maker_that_is_out_of_order_alone(self):
        for marks in ((1, 1), (1, 2)):
            self.assertEqual(disorder(two_makers(CAREFUL, PLAIN, marks)), [("give", 1)] * 3)
            self.assertEqual(disorder(two_makers(PLAIN, PLAIN, marks)), [("give", 0)] * 3)
            setup = two_makers(("refuse", "refuse", "forget"), PLAIN, marks, limit=0)
            self.assertEqual(disorder(setup), [("give", 1), ("give", 1)])


class Plans(unittest.TestCase):
    def test_against_clash_and_disorder_of_each_plan(self):
        for bounds in BOUNDS:
            with self.subTest(bounds):
                for function, plainly in ((safe_plans, plain.plain_clash), (orderly_plans, plain.plain_disorder)):
                    wanted = [words for words in sorted(ALL_WORDS) if plainly(one_maker(words, **bounds)) is None]
                    self.assertEqual(function(*bounds.values()), wanted)

    def test_they_are_as_clash_and_disorder_say(self):
        for bounds in FEW_BOUNDS:
            for words in ALL_WORDS:
                setup = one_maker(words, **bounds)
                self.assertIs(words in safe_plans(**bounds), clash(setup) is None)
                self.assertIs(words in orderly_plans(**bounds), disorder(setup) is None)

    def test_what_is_plain_of_some_plans(self):
        for bounds in BOUNDS:
            safe, orderly = safe_plans(**bounds), orderly_plans(**bounds)
            for found in (safe, orderly):
                self.assertEqual(found, sorted(found))
                self.assertEqual([words for words in found if words[2] == "forget" or words[1] == "wrap"], [])
                self.assertIn(CAREFUL, found)
            # Numbers that grow are never alike.
            self.assertEqual([words for words in orderly if words not in safe], [])
        self.assertIn(("trust", "refuse", "wait"), safe_plans(1, 1, 0, 1))
        self.assertNotIn(("trust", "refuse", "wait"), safe_plans(1, 1, 1, 1))

    def test_the_part_of_the_first_bound_that_is_not_so(self):
        good = {"top": 1, "limit": 0, "back": 0, "ahead": 1}
        for function in (safe_plans, orderly_plans):
            for part, beyond in (("top", (0, 3)), ("limit", (-1, 2)), ("back", (-1, 3)), ("ahead", (0, 3))):
                for value in beyond + (True, False, None, "1", 1.0, (1,)):
                    with self.subTest(function=function.__name__, part=part, value=value):
                        with self.assertRaises(InvalidSetup) as caught:
                            function(**{**good, part: value})
                        self.assertEqual(caught.exception.part, part)
            wrong = {"top": 0, "limit": 2, "back": 3, "ahead": True}
            for at, part in enumerate(wrong):
                bounds = {name: wrong[name] if by >= at else good[name] for by, name in enumerate(wrong)}
                with self.assertRaises(InvalidSetup) as caught:
                    function(**bounds)
                self.assertEqual(caught.exception.part, part)


class Partings(unittest.TestCase):
    def test_all_plans_against_a_plain_search(self):
        for bounds in (SMALL, {"top": 2, "limit": 1, "back": 1, "ahead": 2}, {"top": 1, "limit": 1, "back": 0, "ahead": 1}):
            for one, other in product(ALL_WORDS[::2], ALL_WORDS[::5]):
                with self.subTest(one=one, other=other, bounds=bounds):
                    setups = one_maker(one, **bounds), one_maker(other, **bounds)
                    self.assertEqual(parting(*setups), plain.plain_parting(*setups))

    def test_another_limit_and_other_marks_against_a_plain_search(self):
        for one, other in product(ALL_WORDS[::4], ALL_WORDS[::3]):
            with self.subTest(one=one, other=other):
                setups = one_maker(one, limit=0), one_maker(other, limit=1)
                self.assertEqual(parting(*setups), plain.plain_parting(*setups))
                setups = one_maker(one, mark=0), one_maker(other, mark=1)
                self.assertEqual(parting(*setups), [("give", 0)])

    def test_two_makers_against_a_plain_search(self):
        for (one, other), (third, fourth) in product(PAIRS[:4], PAIRS[:3]):
            with self.subTest(one=one, other=other, third=third, fourth=fourth):
                setups = two_makers(one, other, **SMALL), two_makers(third, fourth, **SMALL)
                self.assertEqual(parting(*setups), plain.plain_parting(*setups))

    def test_setups_that_do_not_part(self):
        for words in ALL_WORDS:
            self.assertIsNone(parting(one_maker(words), one_maker(words)))
            self.assertIsNone(parting(two_makers(words, PLAIN), two_makers(words, PLAIN)))
        # Where no clock runs back, it does not matter what is done then, unless a reading was borrowed.
        one, other = (one_maker((word, "refuse", "forget"), back=0) for word in ("trust", "hold"))
        self.assertIsNone(parting(one, other))
        self.assertIsNotNone(parting(one_maker(("trust", "refuse", "wait")), one_maker(("hold", "refuse", "wait"))))

    def test_none_at_an_event_counts(self):
        one, other = one_maker(("hold", "refuse", "wait")), one_maker(("refuse", "refuse", "wait"))
        history = parting(one, other)
        self.assertEqual(history, [("clock", 0, 1), ("give", 0), ("clock", 0, 0), ("give", 0)])
        self.assertEqual(run(one, history)[1], [(1, 3, 0), (1, 3, 1)])
        self.assertEqual(run(other, history)[1], [(1, 3, 0), None])
        self.assertEqual(parting(other, one), history)

    def test_at_the_second_maker_only(self):
        one, other = two_makers(PLAIN, PLAIN, limit=0), two_makers(PLAIN, CAREFUL, limit=0)
        self.assertEqual(parting(one, other), [("give", 1), ("give", 1)])
        self.assertEqual(parting(two_makers(PLAIN, PLAIN, (1, 2)), two_makers(PLAIN, PLAIN, (1, 3))), [("give", 1)])
        self.assertEqual(parting(two_makers(PLAIN, PLAIN, (1, 2)), two_makers(PLAIN, PLAIN, (2, 1))), [("give", 0)])

    def test_the_shorter_one_though_it_is_of_the_second_maker(self):
        one = two_makers(("hold", "refuse", "wait"), PLAIN, limit=0)
        other = two_makers(CAREFUL, ("trust", "refuse", "forget"), limit=0)
        self.assertEqual(parting(one, other), [("give", 1), ("give", 1)])

    def test_setups_that_are_too_unlike(self):
        good = {"top": 1, "limit": 1, "back": 1, "ahead": 1}
        for changes in ({"top": 2}, {"back": 0}, {"back": 2}, {"ahead": 2}, {"top": 2, "ahead": 2}):
            for made in (lambda **bounds: one_maker(PLAIN, **bounds), lambda **bounds: two_makers(PLAIN, CAREFUL, **bounds)):
                with self.subTest(changes):
                    with self.assertRaises(UnlikeSetups):
                        parting(made(**good), made(**{**good, **changes}))
                    with self.assertRaises(UnlikeSetups):
                        parting(made(**{**good, **changes}), made(**good))
        for one, other in (
            (one_maker(PLAIN), two_makers(PLAIN, PLAIN)), (two_makers(PLAIN, PLAIN), one_maker(PLAIN)),
        ):
            with self.assertRaises(UnlikeSetups):
                parting(one, other)
        # The limit, plans and marks may differ.
        self.assertIsNotNone(parting(one_maker(PLAIN, **good), one_maker(CAREFUL, **{**good, "limit": 0}, mark=0)))


class MostNumbers(unittest.TestCase):
    def test_one_maker_against_a_plain_search(self):
        for words in ALL_WORDS:
            for bounds in FEW_BOUNDS:
                with self.subTest(words=words, bounds=bounds):
                    setup = one_maker(words, **bounds)
                    self.assertEqual(most_numbers(setup), plain.plain_most_numbers(setup))

    def test_two_makers_with_marks_alike_and_unlike_against_a_plain_search(self):
        for (one, other), marks in product(PAIRS, ((1, 1), (1, 3))):
            with self.subTest(one=one, other=other, marks=marks):
                setup = two_makers(one, other, marks, **SMALL)
                self.assertEqual(most_numbers(setup), plain.plain_most_numbers(setup))
        for marks in ((2, 2), (2, 0)):
            setup = two_makers(CAREFUL, PLAIN, marks, top=1, limit=1, back=1, ahead=1)
            self.assertEqual(most_numbers(setup), plain.plain_most_numbers(setup))

    def test_as_many_as_there_are_numbers(self):
        for top, limit in product((1, 2), (0, 1)):
            numbers = (top + 1) * (limit + 1)
            for words in (PLAIN, CAREFUL, BORROWING):
                self.assertEqual(most_numbers(one_maker(words, top=top, limit=limit)), numbers)
            self.assertEqual(most_numbers(two_makers(PLAIN, PLAIN, (1, 1), top=top, limit=limit)), numbers)
            self.assertEqual(most_numbers(two_makers(PLAIN, CAREFUL, (1, 0), top=top, limit=limit)), 2 * numbers)


class HistoryCounts(unittest.TestCase):
    def setups(self):
        yield one_maker(PLAIN)
        yield one_maker(CAREFUL, **SMALL)
        yield one_maker(BORROWING, top=2, limit=0, back=0, ahead=1)
        yield two_makers(PLAIN, CAREFUL, (1, 1), **SMALL)
        yield two_makers(BORROWING, ("hold", "wrap", "wait"), back=1, ahead=1)

    def test_small_lengths_against_all_histories_written_out(self):
        for setup in self.setups():
            counts = {}
            longest = 6 if len(setup) == 1 else 4
            for history, _, given in plain.written_out(setup, longest):
                key = len(history), len(given)
                counts[key] = counts.get(key, 0) + 1
            for length, given in product(range(longest + 1), range(longest + 3)):
                with self.subTest(length=length, given=given):
                    self.assertEqual(history_count(setup, length, given), counts.get((length, given), 0))

    def test_the_sum_over_all_givens_is_the_number_of_all_histories(self):
        for setup in self.setups():
            steps = plain.Steps(setup)
            ends = {begin(setup): 1}
            for length in range(31):
                if length in (0, 1, 5, 17, 29, 30):
                    with self.subTest(length=length):
                        total = sum(history_count(setup, length, given) for given in range(31))
                        self.assertEqual(total, sum(ends.values()))
                further = {}
                for standing, many in ends.items():
                    for _, behind, _ in steps.behind(standing):
                        further[behind] = further.get(behind, 0) + many
                ends = further

    def test_great_lengths_against_a_plain_count(self):
        for setup in (one_maker(CAREFUL), two_makers(CAREFUL, BORROWING, **SMALL)):
            steps = plain.Steps(setup)
            ends = {(begin(setup), 0): 1}
            for _ in range(30):
                further = {}
                for (standing, given), many in ends.items():
                    for _, behind, number in steps.behind(standing):
                        key = behind, given + (number is not None)
                        further[key] = further.get(key, 0) + many
                ends = further
            for given in range(31):
                wanted = sum(many for (_, gave), many in ends.items() if gave == given)
                self.assertEqual(history_count(setup, 30, given), wanted)

    def test_at_the_edges(self):
        for setup in self.setups():
            self.assertEqual([history_count(setup, 0, given) for given in (0, 1, 30)], [1, 0, 0])
            self.assertEqual(history_count(setup, 29, 30), 0)
        # Such makers give a number whenever they are told to.
        self.assertEqual(history_count(one_maker(PLAIN), 30, 30), 1)
        self.assertEqual(history_count(two_makers(PLAIN, PLAIN), 30, 30), 2 ** 30)
        # Clocks with two readings can jump to one other reading, and a restart is one event more.
        self.assertEqual(history_count(one_maker(PLAIN, **SMALL), 30, 0), 2 ** 30)
        self.assertEqual(history_count(two_makers(PLAIN, PLAIN, **SMALL), 30, 0), 4 ** 30)
        self.assertEqual(history_count(one_maker(CAREFUL), 30, 30), 0)

    def test_counts_that_are_none_or_beyond_the_edges(self):
        for setup in (one_maker(PLAIN), two_makers(PLAIN, CAREFUL)):
            for wrong in NO_COUNTS:
                for length, given in ((wrong, 0), (0, wrong), (30, wrong), (wrong, wrong), (wrong, 30)):
                    with self.subTest(length=length, given=given), self.assertRaises(InvalidCount):
                        history_count(setup, length, given)


class Package(unittest.TestCase):
    def test_what_is_handed_in_is_the_same_behind_the_call(self):
        plans, marks = (Plan(*PLAIN), Plan(*CAREFUL)), (1, 2)
        setup, like = Setup(plans, marks, 1, 0, 1, 1), two_makers(PLAIN, CAREFUL, (1, 2), **SMALL)
        clash(setup), disorder(setup), parting(setup, setup), most_numbers(setup), history_count(setup, 3, 2)
        with self.assertRaises(InvalidCount):
            history_count(setup, 3, 31)
        with self.assertRaises(UnlikeSetups):
            parting(setup, one_maker(PLAIN))
        self.assertEqual(setup, like)
        self.assertEqual((setup.plans, setup.marks), ((Plan(*PLAIN), Plan(*CAREFUL)), (1, 2)))

    def test_returned_lists_are_the_callers(self):
        one, other = one_maker(PLAIN), one_maker(CAREFUL)
        for call in (
            lambda: clash(one), lambda: disorder(one), lambda: parting(one, other),
            lambda: safe_plans(1, 1, 1, 1), lambda: orderly_plans(2, 0, 0, 1),
        ):
            found = call()
            before = list(found)
            found.append("changed")
            self.assertEqual(call(), before)
            found.clear()
            self.assertEqual(call(), before)
