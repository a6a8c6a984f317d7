import unittest

from manymakers import events
from manymakers.errors import InvalidEvent, InvalidHistory, InvalidStanding, MakerError, UnknownMaker
from manymakers.events import after, begin, run
from tests.makers import ALL_WORDS, BACK, FULL, RESTART, one_maker, states, two_makers

PLAIN = ("trust", "wrap", "forget")
BOUNDS = [(top, limit) for top in (1, 2) for limit in (0, 1)]


def behind(words, state, event, **bounds):
    """Return the one maker's state behind an event, and what it gave."""
    standing, given = after(one_maker(words, **bounds), (state,), event)
    return standing[0], given


def give(words, state, **bounds):
    return behind(words, state, ("give", 0), **bounds)


def with_saved(words, state, reading):
    """Return a state with the reading that a plan saves when it gives a number with it."""
    return state[:3] + ((-1 if words[2] == "forget" else reading),)


def plans_with(on_back=BACK, on_full=FULL, on_restart=RESTART):
    return [w for w in ALL_WORDS if w[0] in on_back and w[1] in on_full and w[2] in on_restart]


class Interface(unittest.TestCase):
    def test_functions_are_defined_where_they_are_listed(self):
        for function in (begin, after, run):
            self.assertEqual(function.__module__, events.__name__)


class Beginning(unittest.TestCase):
    def test_for_one_maker_and_for_two(self):
        for words in ALL_WORDS:
            self.assertEqual(begin(one_maker(words)), ((0, -1, 0, -1),))
            self.assertEqual(begin(two_makers(words, PLAIN)), ((0, -1, 0, -1), (0, -1, 0, -1)))


class Clocks(unittest.TestCase):
    def reached(self, present, top, back, ahead):
        """Return the readings to which a clock can jump, of many that one might ask for."""
        setup = one_maker(PLAIN, top=top, back=back, ahead=ahead)
        standing = ((present, -1, 0, -1),)
        found = []
        for reading in range(-3, 6):
            try:
                self.assertEqual(after(setup, standing, ("clock", 0, reading)), (((reading, -1, 0, -1),), None))
                found.append(reading)
            except InvalidEvent:
                pass
        return found

    def test_jumps_to_the_edges_of_back_ahead_and_top_and_not_beyond(self):
        for top, back, ahead, reached in (
            (1, 0, 1, ([1], [])), (1, 0, 2, ([1], [])), (1, 1, 1, ([1], [0])), (1, 2, 2, ([1], [0])),
            (2, 0, 1, ([1], [2], [])), (2, 0, 2, ([1, 2], [2], [])), (2, 1, 1, ([1], [0, 2], [1])),
            (2, 1, 2, ([1, 2], [0, 2], [1])), (2, 2, 1, ([1], [0, 2], [0, 1])), (2, 2, 2, ([1, 2], [0, 2], [0, 1])),
        ):
            for present, expected in enumerate(reached):
                with self.subTest(top=top, back=back, ahead=ahead, present=present):
                    self.assertEqual(self.reached(present, top, back, ahead), expected)

    def test_a_jump_changes_the_reading_alone_and_gives_nothing(self):
        for words in ALL_WORDS:
            for state in states(words, 2, 1):
                for reading in {0, 1, 2} - {state[0]}:
                    with self.subTest(words=words, state=state, reading=reading):
                        expected = ((reading,) + state[1:], None)
                        self.assertEqual(behind(words, state, ("clock", 0, reading)), expected)

    def test_a_clock_jumps_from_its_own_reading(self):
        setup = two_makers(PLAIN, PLAIN, ahead=1, back=0)
        standing = ((2, -1, 0, -1), (0, -1, 0, -1))
        self.assertEqual(after(setup, standing, ("clock", 1, 1)), (((2, -1, 0, -1), (1, -1, 0, -1)), None))
        for event in (("clock", 0, 1), ("clock", 0, 3), ("clock", 1, 2), ("clock", 1, 0)):
            with self.assertRaises(InvalidEvent):
                after(setup, standing, event)


class Restarts(unittest.TestCase):
    def test_a_restart_forgets_with_forget(self):
        for words in plans_with(on_restart=("forget",)):
            self.assertEqual(behind(words, (2, 1, 1, -1), ("restart", 0)), ((2, -1, 0, -1), None))
            self.assertEqual(behind(words, (0, -1, 0, -1), ("restart", 0)), ((0, -1, 0, -1), None))

    def test_a_restart_with_saved_takes_the_saved_reading_and_the_limit(self):
        for words in plans_with(on_restart=("saved",)):
            for limit in (0, 1):
                for state, expected in (
                    ((2, 1, 0, 1), (2, 1, limit, 1)), ((0, 2, 0, 0), (0, 0, limit, 0)),
                    ((0, -1, 0, 2), (0, 2, limit, 2)), ((1, 1, limit, 0), (1, 0, limit, 0)),
                ):
                    with self.subTest(words=words, limit=limit, state=state):
                        found = behind(words, state, ("restart", 0), limit=limit)
                        self.assertEqual(found, (expected, None))

    def test_a_restart_with_saved_forgets_if_nothing_is_saved(self):
        for words in plans_with(on_restart=("saved",)):
            self.assertEqual(behind(words, (1, 2, 1, -1), ("restart", 0)), ((1, -1, 0, -1), None))
            self.assertEqual(behind(words, (1, -1, 0, -1), ("restart", 0)), ((1, -1, 0, -1), None))

    def test_a_restart_with_wait_forgets_and_leaves_what_is_saved(self):
        for words in plans_with(on_restart=("wait",)):
            for saved in (-1, 0, 1, 2):
                self.assertEqual(behind(words, (2, 1, 1, saved), ("restart", 0)), ((2, -1, 0, saved), None))
                self.assertEqual(behind(words, (0, -1, 0, saved), ("restart", 0)), ((0, -1, 0, saved), None))


class Givings(unittest.TestCase):
    def given(self, words, state, number, **bounds):
        """Check that a maker gives a number with mark 3, and what it knows then."""
        found = give(words, state, **bounds)
        told = (state[0], number[0], number[1], state[3])
        self.assertEqual(found, (with_saved(words, told, number[0]), (number[0], 3, number[1])), (words, state))

    def none(self, words, state, **bounds):
        self.assertEqual(give(words, state, **bounds), (state, None), (words, state))

    def test_the_clock_tells_if_no_last_number_is_known(self):
        for words in ALL_WORDS:
            for reading in (0, 1, 2):
                self.given(words, (reading, -1, 0, -1), (reading, 0))
        for words in plans_with(on_restart=("saved",)):
            for reading, saved in ((0, 0), (0, 2), (1, 2), (2, 1)):
                self.given(words, (reading, -1, 0, saved), (reading, 0))

    def test_wait_gives_none_until_the_clock_is_above_what_is_saved(self):
        for words in plans_with(on_restart=("wait",)):
            for reading, saved in ((0, 0), (0, 1), (0, 2), (1, 1), (1, 2), (2, 2)):
                self.none(words, (reading, -1, 0, saved))
            for reading, saved in ((1, 0), (2, 0), (2, 1)):
                self.given(words, (reading, -1, 0, saved), (reading, 0))

    def test_wait_does_not_look_at_what_is_saved_if_a_last_number_is_known(self):
        for words in plans_with(on_restart=("wait",)):
            self.given(words, (1, 0, 0, 2), (1, 0))
            self.given(words, (0, 0, 0, 1), (0, 1))

    def test_a_clock_above_the_last_reading_tells(self):
        for words in ALL_WORDS:
            for reading, last in ((1, 0), (2, 0), (2, 1)):
                for counter in (0, 1):
                    self.given(words, (reading, last, counter, -1), (reading, 0))

    def test_a_clock_below_the_last_reading_tells_with_trust(self):
        for words in plans_with(on_back=("trust",)):
            for reading, last in ((0, 1), (0, 2), (1, 2)):
                for counter in (0, 1):
                    self.given(words, (reading, last, counter, -1), (reading, 0))

    def test_a_clock_below_the_last_reading_gives_none_with_refuse(self):
        for words in plans_with(on_back=("refuse",)):
            for reading, last in ((0, 1), (0, 2), (1, 2)):
                for counter in (0, 1):
                    self.none(words, (reading, last, counter, -1))

    def test_a_clock_below_the_last_reading_counts_on_with_hold(self):
        for words in plans_with(on_back=("hold",)):
            for reading, last in ((0, 1), (0, 2), (1, 2)):
                self.given(words, (reading, last, 0, -1), (last, 1))
        for words in plans_with(on_back=("hold",), on_full=("wrap",)):
            self.given(words, (0, 1, 1, -1), (1, 0))
            self.given(words, (0, 2, 1, -1), (2, 0))
        for words in plans_with(on_back=("hold",), on_full=("borrow",)):
            self.given(words, (0, 1, 1, -1), (2, 0))
            self.none(words, (1, 2, 1, -1))
        for words in plans_with(on_back=("hold",), on_full=("refuse",)):
            self.none(words, (0, 1, 1, -1))
            self.none(words, (1, 2, 1, -1))

    def test_a_clock_at_the_last_reading_counts_as_long_as_there_is_room(self):
        for words in ALL_WORDS:
            for reading in (0, 1, 2):
                self.given(words, (reading, reading, 0, -1), (reading, 1))

    def test_a_full_counter_at_the_last_reading(self):
        for limit in (0, 1):
            for reading in (0, 1, 2):
                state = (reading, reading, limit, -1)
                for words in plans_with(on_full=("wrap",)):
                    self.given(words, state, (reading, 0), limit=limit)
                for words in plans_with(on_full=("refuse",)):
                    self.none(words, state, limit=limit)
                for words in plans_with(on_full=("borrow",)):
                    if reading < 2:
                        self.given(words, state, (reading + 1, 0), limit=limit)
                    else:
                        self.none(words, state, limit=limit)

    def test_borrow_ends_at_the_top_of_the_set_up(self):
        for words in plans_with(on_full=("borrow",)):
            self.none(words, (1, 1, 1, -1), top=1)
            self.given(words, (0, 0, 1, -1), (1, 0), top=1)

    def test_the_reading_of_the_number_is_saved_not_that_of_the_clock(self):
        self.assertEqual(give(("hold", "refuse", "saved"), (0, 2, 0, 1)), ((0, 2, 1, 2), (2, 3, 1)))
        self.assertEqual(give(("hold", "borrow", "wait"), (0, 0, 1, 0)), ((0, 1, 0, 1), (1, 3, 0)))
        self.assertEqual(give(("trust", "refuse", "wait"), (0, 2, 0, 2)), ((0, 0, 0, 0), (0, 3, 0)))
        self.assertEqual(give(("trust", "refuse", "forget"), (0, 2, 0, -1)), ((0, 0, 0, -1), (0, 3, 0)))

    def test_what_is_saved_stays_if_none_is_given(self):
        self.none(("refuse", "wrap", "saved"), (0, 2, 1, 1))
        self.none(("trust", "refuse", "wait"), (1, 1, 1, 2))

    def test_the_number_has_the_mark_of_its_maker(self):
        setup = two_makers(PLAIN, ("hold", "borrow", "wait"), marks=(2, 0))
        self.assertEqual(after(setup, begin(setup), ("give", 0))[1], (0, 2, 0))
        self.assertEqual(after(setup, begin(setup), ("give", 1))[1], (0, 0, 0))


def told_by_point_6(words, state, top, limit):
    """Return (reading, counter) or None as point 6 tells it, sentence by sentence."""
    reading, last, counter, saved = state
    on_back, on_full, on_restart = words
    if last == -1 and on_restart == "wait" and saved > -1 and not reading > saved:
        return None
    if last == -1 or reading > last:
        return reading, 0
    if reading < last and on_back != "hold":
        return {"trust": (reading, 0), "refuse": None}[on_back]
    if counter + 1 <= limit:
        return last, counter + 1
    borrowed = (last + 1, 0) if last + 1 <= top else None
    return {"refuse": None, "wrap": (last, 0), "borrow": borrowed}[on_full]


class FromEveryStanding(unittest.TestCase):
    def test_one_maker_gives_from_every_standing_that_point_7_allows(self):
        for words in ALL_WORDS:
            for top, limit in BOUNDS:
                for state in states(words, top, limit):
                    told = told_by_point_6(words, state, top, limit)
                    found = give(words, state, top=top, limit=limit)
                    if told is None:
                        self.assertEqual(found, (state, None), (words, top, limit))
                    else:
                        known = with_saved(words, (state[0], *told, state[3]), told[0])
                        self.assertEqual(found, (known, (told[0], 3, told[1])), (words, top, limit, state))

    def test_two_makers_do_as_each_would_alone_and_leave_the_other_alone(self):
        one, other = ("hold", "borrow", "saved"), ("refuse", "wrap", "wait")
        setup = two_makers(one, other, marks=(1, 3), top=1)
        for first in states(one, 1, 1):
            for second in states(other, 1, 1):
                standing = (first, second)
                for word in ("give", "restart"):
                    behind_first, given = behind(one, first, (word, 0), top=1, mark=1)
                    self.assertEqual(after(setup, standing, (word, 0)), ((behind_first, second), given))
                    behind_second, given = behind(other, second, (word, 0), top=1, mark=3)
                    self.assertEqual(after(setup, standing, (word, 1)), ((first, behind_second), given))
                jumped = (1 - second[0],) + second[1:]
                self.assertEqual(after(setup, standing, ("clock", 1, jumped[0])), ((first, jumped), None))

    def test_answers_are_tuples(self):
        setup = two_makers(PLAIN, PLAIN)
        for event in (("give", 0), ("give", 1), ("restart", 1), ("clock", 0, 1)):
            found = after(setup, begin(setup), event)
            self.assertIsInstance(found, tuple)
            self.assertIsInstance(found[0], tuple)
            self.assertEqual([len(state) for state in found[0]], [4, 4])


class WrongStandings(unittest.TestCase):
    def is_wrong(self, setup, standing, event=("give", 0)):
        with self.subTest(standing=standing), self.assertRaises(InvalidStanding):
            after(setup, standing, event)

    def test_a_standing_of_another_shape(self):
        one, two = one_maker(("hold", "wrap", "saved")), two_makers(PLAIN, PLAIN)
        state = (0, -1, 0, -1)
        for standing in (
            (), (state, state), state, ((),), ((0, -1, 0),), ((0, -1, 0, -1, 0),), (0,), ("abcd",), (True,),
            ((state,),), ((state, -1, 0, -1),), ([0, -1, 0, -1],), None, 0, "", [state],
        ):
            self.is_wrong(one, standing)
        for standing in ((), (state,), (state, state, state), state, (state, 0), (state, ()), ("abcd", state)):
            self.is_wrong(two, standing)

    def test_a_part_that_is_no_integer_within_its_bounds(self):
        good = (1, 1, 1, 1)
        for top, limit in BOUNDS:
            setup = one_maker(("hold", "wrap", "saved"), top=top, limit=limit)
            for place, beyond in ((0, (-1, top + 1)), (1, (-2, top + 1)), (2, (-1, limit + 1)), (3, (-2, top + 1))):
                for wrong in beyond + (True, False, "0", "", (), (0,), None, 10 ** 20):
                    state = list(good[:2] + (limit,) + good[3:])
                    state[place] = wrong
                    self.is_wrong(setup, (tuple(state),))

    def test_a_counter_without_a_last_number(self):
        for words in ALL_WORDS:
            self.is_wrong(one_maker(words), ((0, -1, 1, -1),))
        self.is_wrong(one_maker(("hold", "wrap", "wait")), ((2, -1, 1, 2),))

    def test_something_saved_with_forget(self):
        for words in plans_with(on_restart=("forget",)):
            for saved in (0, 1, 2, True, -2):
                self.is_wrong(one_maker(words), ((2, 1, 0, saved),))

    def test_the_second_maker_is_looked_at_by_its_own_plan(self):
        setup = two_makers(PLAIN, ("trust", "wrap", "wait"))
        good, saved = (0, 0, 0, -1), (0, 0, 0, 1)
        self.assertEqual(after(setup, (good, saved), ("restart", 1))[0], (good, (0, -1, 0, 1)))
        for standing in ((saved, good), (saved, saved), (good, (0, 0, 2, 1)), (good, (3, 0, 0, 1))):
            self.is_wrong(setup, standing)

    def test_a_wrong_standing_comes_ahead_of_all_else(self):
        setup = one_maker(PLAIN)
        for event in ((), ("jump",), ("give", 7), ("clock", 0, 9), ("clock", 0, 0)):
            self.is_wrong(setup, ((0, -1, 1, -1),), event)


class WrongEvents(unittest.TestCase):
    def setUp(self):
        self.one = one_maker(("hold", "wrap", "saved"), back=1, ahead=1)
        self.two = two_makers(PLAIN, PLAIN, back=1, ahead=1)

    def raised(self, setup, event):
        with self.assertRaises(MakerError) as caught:
            after(setup, begin(setup), event)
        return type(caught.exception)

    def test_a_tuple_that_has_no_such_word_or_not_as_many_parts(self):
        for event in (
            (), ("",), ("jump", 0), ("Give", 0), ("give ", 0), (0, 0), (True, 0), (("give",), 0), ((), 0),
            ("give",), ("give", 0, 0), ("restart",), ("restart", 0, 0), ("clock",), ("clock", 0), ("clock", 0, 1, 1),
            (0, "give"), (("give", 0),), ("undo",), ("giv", 0), ("clocks", 0, 1),
        ):
            with self.subTest(event=event):
                self.assertEqual(self.raised(self.one, event), InvalidEvent)
                self.assertEqual(self.raised(self.two, event), InvalidEvent)

    def test_a_maker_that_there_is_not(self):
        for word in ("give", "restart", "clock"):
            more = (1,) if word == "clock" else ()
            for maker in (-1, 2, 10 ** 20, True, False, "0", "", (), (0,), None):
                with self.subTest(word=word, maker=maker):
                    self.assertEqual(self.raised(self.one, (word, maker) + more), UnknownMaker)
                    self.assertEqual(self.raised(self.two, (word, maker) + more), UnknownMaker)
            self.assertEqual(self.raised(self.one, (word, 1) + more), UnknownMaker)
            after(self.two, begin(self.two), (word, 1) + more)

    def test_a_reading_to_which_the_clock_cannot_jump(self):
        for reading in (0, 2, 3, -1, True, False, "1", "", (), (1,), None):
            with self.subTest(reading=reading):
                self.assertEqual(self.raised(self.one, ("clock", 0, reading)), InvalidEvent)
                self.assertEqual(self.raised(self.two, ("clock", 1, reading)), InvalidEvent)

    def test_of_several_wrong_things_the_first_is_told(self):
        self.assertEqual(self.raised(self.one, ("jump", 5, 9)), InvalidEvent)
        self.assertEqual(self.raised(self.one, ("clock", 5)), InvalidEvent)
        self.assertEqual(self.raised(self.one, ("give", 5, 9)), InvalidEvent)
        self.assertEqual(self.raised(self.one, ("clock", 5, 9)), UnknownMaker)
        self.assertEqual(self.raised(self.one, ("clock", "x", "y")), UnknownMaker)

    def test_a_wrong_event_changes_nothing(self):
        standing = begin(self.one)
        first = after(self.one, standing, ("clock", 0, 1))
        self.raised(self.one, ("clock", 0, 2))
        self.assertEqual(standing, ((0, -1, 0, -1),))
        self.assertEqual(after(self.one, standing, ("clock", 0, 1)), first)


class Histories(unittest.TestCase):
    def wrong_index(self, setup, history):
        with self.assertRaises(InvalidHistory) as caught:
            run(setup, history)
        return caught.exception.index

    def test_no_events(self):
        for setup in (one_maker(PLAIN), two_makers(PLAIN, PLAIN)):
            self.assertEqual(run(setup, []), (begin(setup), []))

    def test_only_events_with_give_are_in_the_list_of_what_was_given(self):
        setup = two_makers(("refuse", "refuse", "wait"), PLAIN, limit=0)
        history = [
            ("give", 0), ("clock", 1, 2), ("give", 0), ("give", 1), ("restart", 0), ("give", 0), ("clock", 0, 1),
            ("give", 0), ("clock", 0, 0), ("give", 0), ("give", 1), ("restart", 1),
        ]
        given = [(0, 1, 0), None, (2, 3, 0), None, (1, 1, 0), None, (2, 3, 0)]
        self.assertEqual(run(setup, history), (((0, 1, 0, 1), (2, -1, 0, -1)), given))

    def test_a_restart_with_saved_does_not_give_again_what_was_given(self):
        setup = one_maker(("hold", "refuse", "saved"))
        history = [("give", 0), ("restart", 0), ("give", 0), ("clock", 0, 1), ("give", 0)]
        self.assertEqual(run(setup, history), (((1, 1, 0, 1),), [(0, 3, 0), None, (1, 3, 0)]))

    def test_a_history_goes_on_where_after_leaves_off(self):
        setup = two_makers(("hold", "borrow", "saved"), ("trust", "wrap", "wait"), top=1)
        history = [
            ("give", 0), ("give", 0), ("give", 0), ("clock", 1, 1), ("give", 1), ("clock", 1, 0), ("give", 1),
            ("restart", 1), ("give", 1), ("restart", 0), ("give", 0), ("clock", 0, 1), ("give", 0), ("give", 1),
        ]
        standing, given = begin(setup), []
        for at, event in enumerate(history):
            standing, number = after(setup, standing, event)
            given += [number] if event[0] == "give" else []
            self.assertEqual(run(setup, history[:at + 1]), (standing, given))

    def test_a_long_history(self):
        setup = one_maker(PLAIN, top=1, limit=1, back=1, ahead=1)
        turn = [("clock", 0, 1), ("give", 0), ("clock", 0, 0), ("give", 0), ("give", 0), ("restart", 0)]
        standing, given = run(setup, turn * 2000)
        self.assertEqual(standing, ((0, -1, 0, -1),))
        self.assertEqual(given, [(1, 3, 0), (0, 3, 0), (0, 3, 1)] * 2000)
        self.assertEqual(self.wrong_index(setup, turn * 2000 + [("clock", 0, 0)]), 12000)

    def test_the_index_of_the_first_event_that_cannot_be(self):
        setup = one_maker(PLAIN, ahead=1, back=1)
        give_it, jump = ("give", 0), ("clock", 0, 1)
        for history, index in (
            ([()], 0), ([("give", 1)], 0), ([("clock", 0, 2)], 0), ([("clock", 0, 0)], 0), ([("give",)], 0),
            ([give_it, jump, jump], 2), ([give_it, ("undo",), give_it], 1), ([jump, ("clock", 0, 2), jump, jump], 3),
            ([give_it, ("give", 1), ()], 1), ([jump, jump, ("give", 9)], 1), ([jump, ("restart", True)], 1),
            ([give_it, give_it, ("clock", 0, True)], 2), ([jump, ("restart", 0), ("clock", 0, 1)], 2),
        ):
            with self.subTest(history=history):
                self.assertEqual(self.wrong_index(setup, history), index)


class ArgumentsAndAnswers(unittest.TestCase):
    def test_a_list_that_is_handed_in_is_the_same_behind_the_call(self):
        setup = one_maker(PLAIN)
        for history in ([("give", 0), ("clock", 0, 1), ("give", 0)], [("give", 0), ("give", 1)], []):
            copy = list(history)
            try:
                run(setup, history)
            except InvalidHistory:
                pass
            self.assertEqual(history, copy)

    def test_what_becomes_of_the_lists_does_not_change_a_later_answer(self):
        setup = one_maker(PLAIN)
        history = [("give", 0), ("give", 0)]
        _, given = run(setup, history)
        given.append("more")
        given[0] = None
        self.assertEqual(run(setup, history), (((0, 0, 1, -1),), [(0, 3, 0), (0, 3, 1)]))
        _, nothing = run(setup, [])
        nothing.append("more")
        self.assertEqual(run(setup, []), (begin(setup), []))
        _, given = run(setup, history)
        history.clear()
        self.assertEqual(given, [(0, 3, 0), (0, 3, 1)])

    def test_repeated_calls_return_equal_results(self):
        setup = two_makers(PLAIN, ("hold", "borrow", "saved"))
        event, history = ("give", 1), [("give", 1), ("restart", 1), ("give", 1)]
        for _ in range(3):
            self.assertEqual(after(setup, begin(setup), event), (((0, -1, 0, -1), (0, 0, 0, 0)), (0, 3, 0)))
            self.assertEqual(run(setup, history), (((0, -1, 0, -1), (0, 1, 0, 1)), [(0, 3, 0), (1, 3, 0)]))
        self.assertEqual(setup, two_makers(PLAIN, ("hold", "borrow", "saved")))
