import copy
import random
import unittest

from manymakers import houses
from manymakers.errors import (
    InvalidEvent, InvalidName, InvalidOperation, MakerError, UnknownKept, UnknownMaker,
)
from manymakers.events import begin, run
from manymakers.houses import House, Trial
from tests.makers import ALL_WORDS, one_maker, two_makers
from tests.plain import plain_house

PLAIN = ("trust", "wrap", "forget")
CAREFUL = ("refuse", "refuse", "wait")
SAVING = ("hold", "borrow", "saved")
NO_MAKERS = (-1, 2, 10 ** 20, True, False, None, "0", "", (), (0,), [0])
NO_NAMES = (
    "", "A", "aB", "a1", "a b", " a", "a ", "a_b", "abcdefghi", "a" * 20, "\u00e4", "a\n", "\u00aa", 0, 1, True, None,
    ("a",), ["a"], b"a", {},
)
NO_OPERATIONS = (
    (), ("jump", 0), ("Give", 0), ("give ", 0), ("", 0), (0, 0), (None,), (True, 0), (("give", 0),), (b"give", 0),
    (["give"], 0), "give", "undo", ["give", 0], ["undo"], None, 0, True, {"give": 0}, b"give", ("give",),
    ("give", 0, 0), ("restart",), ("restart", 0, 0), ("clock",), ("clock", 0), ("clock", 0, 1, 1), ("keep_as",),
    ("keep_as", "a", "b"), ("fetch",), ("fetch", "a", 0), ("undo", 0), ("undo", ()), ("redo", 1), ("apply_all", []),
    ("tried_out", [], True), ("replay",), ("replay", None, []), ("history",), ("standing_now",), ("hold",),
    ("__init__", 0), ("_go_on", None), ("count",), ("end",),
)


def seen(house):
    """Return all that the properties of a house tell."""
    return [
        house.standing_now, house.numbers_given, house.has_clash, house.is_orderly, house.kept_under, house.history,
    ]


def whole(house):
    """Return all that a house tells behind each undo and behind each redo, and leave it as it was."""
    told = [seen(house)]
    undone, redone = 0, 0
    while house.undo():
        told.append(seen(house))
        undone += 1
    for _ in range(undone):
        house.redo()
    while house.redo():
        told.append(seen(house))
        redone += 1
    for _ in range(redone):
        house.undo()
    return told


def called(house, operation):
    """Call the method that an operation names."""
    return getattr(house, operation[0])(*operation[1:])


class Interface(unittest.TestCase):
    def test_classes_and_methods_are_defined_where_they_are_listed(self):
        self.assertEqual([House.__module__, Trial.__module__], [houses.__name__] * 2)
        for name in ("standing_now", "numbers_given", "has_clash", "is_orderly", "kept_under", "history"):
            self.assertIsInstance(vars(House)[name], property)
        for name in (
            "__init__", "clock", "fetch", "restart", "keep_as", "undo", "redo", "give", "apply_all", "tried_out",
        ):
            self.assertTrue(callable(vars(House)[name]))
        self.assertIsInstance(vars(House)["replay"], classmethod)
        for name in ("__init__", "__enter__", "__exit__", "hold"):
            self.assertTrue(callable(vars(Trial)[name]))

    def test_parameters_have_the_names_of_the_document(self):
        house = House(setup=one_maker(PLAIN))
        self.assertEqual(house.clock(maker=0, reading=2), 2)
        self.assertEqual(house.give(maker=0), (2, 3, 0))
        self.assertIs(house.restart(maker=0), False)
        self.assertIs(house.keep_as(name="a"), False)
        self.assertEqual(house.fetch(name="a"), 1)
        self.assertEqual(house.apply_all(operations=[("give", 0)]), [(2, 3, 0)])
        self.assertEqual(house.tried_out(operations=[("give", 0)], keep=False), [(2, 3, 1)])
        self.assertEqual(House.replay(setup=one_maker(PLAIN), operations=[("give", 0)]).history, [("give", 0)])
        with Trial(house=house) as trial:
            trial.hold()

    def test_properties_cannot_be_put_in_from_outside(self):
        for name in ("standing_now", "numbers_given", "has_clash", "is_orderly", "kept_under", "history"):
            with self.assertRaises(AttributeError):
                setattr(House(one_maker(PLAIN)), name, [])


class Operations(unittest.TestCase):
    def test_at_the_beginning(self):
        for setup in (one_maker(PLAIN), two_makers(CAREFUL, SAVING)):
            house = House(setup)
            self.assertEqual(seen(house), [begin(setup), [], False, True, [], []])
            self.assertEqual([house.undo(), house.redo()], [False, False])

    def test_clock_returns_by_how_much_it_jumped(self):
        house = House(two_makers(PLAIN, CAREFUL))
        self.assertEqual([house.clock(0, 2), house.clock(1, 1), house.clock(0, 1), house.clock(0, 0)], [2, 1, -1, -1])
        self.assertEqual([house.clock(1, 2), house.clock(1, 0)], [1, -2])
        self.assertEqual(house.standing_now, begin(two_makers(PLAIN, CAREFUL)))

    def test_restart_returns_whether_the_maker_knows_of_a_last_number_then(self):
        for words in ALL_WORDS:
            house = House(one_maker(words))
            self.assertIs(house.restart(0), False)
            house.give(0)
            self.assertIs(house.restart(0), words[2] == "saved")
            self.assertIs(house.restart(0), words[2] == "saved")
        house = House(two_makers(SAVING, SAVING))
        house.give(1)
        self.assertEqual([house.restart(0), house.restart(1)], [False, True])

    def test_give_returns_the_number_or_none(self):
        house = House(two_makers(CAREFUL, PLAIN, (2, 0), limit=0))
        found = [house.give(0), house.give(0), house.give(1), house.give(1)]
        self.assertEqual(found, [(0, 2, 0), None, (0, 0, 0), (0, 0, 0)])
        self.assertEqual(house.numbers_given, [(0, 2, 0), (0, 0, 0), (0, 0, 0)])
        self.assertEqual(house.history, [("give", 0), ("give", 0), ("give", 1), ("give", 1)])

    def test_they_are_as_a_history_is(self):
        setup = two_makers(SAVING, PLAIN)
        history = [
            ("give", 0), ("give", 0), ("give", 0), ("clock", 1, 2), ("give", 1), ("restart", 0), ("clock", 0, 1),
            ("give", 0), ("restart", 1), ("clock", 1, 1), ("give", 1), ("clock", 0, 2), ("give", 0), ("give", 0),
        ]
        house = House(setup)
        for at, event in enumerate(history):
            called(house, event)
            standing, given = run(setup, history[:at + 1])
            self.assertEqual(house.standing_now, standing)
            self.assertEqual(house.numbers_given, [number for number in given if number is not None])
            self.assertEqual(house.history, history[:at + 1])

    def test_a_maker_that_is_none(self):
        for setup in (one_maker(PLAIN), two_makers(PLAIN, CAREFUL)):
            house = House(setup)
            house.clock(0, 1)
            before = seen(house)
            for maker in NO_MAKERS:
                for call in (lambda: house.give(maker), lambda: house.restart(maker)):
                    with self.subTest(maker=maker), self.assertRaises(UnknownMaker):
                        call()
                for reading in (2, 1, 9, None, "x"):
                    with self.subTest(maker=maker, reading=reading), self.assertRaises(UnknownMaker):
                        house.clock(maker, reading)
            self.assertEqual(seen(house), before)
        with self.assertRaises(UnknownMaker):
            House(one_maker(PLAIN)).give(1)

    def test_a_jump_that_cannot_be(self):
        house = House(two_makers(PLAIN, CAREFUL, back=1, ahead=1))
        before = seen(house)
        for reading in (0, 2, 3, -1, True, False, None, "1", (1,), [1], 10 ** 20):
            for maker in (0, 1):
                with self.subTest(reading=reading), self.assertRaises(InvalidEvent):
                    house.clock(maker, reading)
        self.assertEqual(seen(house), before)


class Properties(unittest.TestCase):
    def test_has_clash_whoever_gave_the_numbers(self):
        house = House(two_makers(CAREFUL, CAREFUL, (1, 1)))
        house.give(0)
        self.assertIs(house.has_clash, False)
        house.give(1)
        self.assertIs(house.has_clash, True)
        self.assertIs(house.is_orderly, True)
        house = House(two_makers(CAREFUL, CAREFUL, (1, 2)))
        house.apply_all([("give", 0), ("give", 1), ("give", 0), ("give", 1)])
        self.assertIs(house.has_clash, False)

    def test_a_number_that_is_not_greater_though_it_was_given_by_another_one(self):
        house = House(two_makers(PLAIN, PLAIN, (1, 2)))
        house.apply_all([("clock", 0, 2), ("give", 0), ("give", 1), ("give", 0), ("clock", 1, 1), ("give", 1)])
        self.assertIs(house.is_orderly, True)
        house.apply_all([("clock", 0, 1), ("give", 0)])
        self.assertEqual([house.has_clash, house.is_orderly], [False, False])

    def test_the_same_number_again_is_not_greater(self):
        house = House(one_maker(("refuse", "refuse", "forget")))
        house.apply_all([("give", 0), ("restart", 0)])
        self.assertEqual([house.has_clash, house.is_orderly], [False, True])
        house.give(0)
        self.assertEqual([house.has_clash, house.is_orderly], [True, False])

    def test_out_of_order_stays_so(self):
        house = House(one_maker(PLAIN))
        house.apply_all([("clock", 0, 1), ("give", 0), ("clock", 0, 0), ("give", 0), ("clock", 0, 2), ("give", 0)])
        self.assertEqual([house.has_clash, house.is_orderly], [False, False])

    def test_none_is_no_number(self):
        house = House(one_maker(CAREFUL, limit=0))
        self.assertEqual(house.apply_all([("give", 0)] * 3), [(0, 3, 0), None, None])
        self.assertEqual([house.numbers_given, house.has_clash, house.is_orderly], [[(0, 3, 0)], False, True])

    def test_lists_are_new_for_each_reading(self):
        house = House(one_maker(PLAIN))
        house.apply_all([("give", 0), ("keep_as", "b"), ("keep_as", "a"), ("give", 0)])
        before = copy.deepcopy(seen(house))
        for name in ("numbers_given", "kept_under", "history"):
            found = getattr(house, name)
            self.assertIsNot(found, getattr(house, name))
            found.append("changed")
            found[0] = None
            self.assertEqual(seen(house), before)
            found.clear()
            self.assertEqual(seen(house), before)
        self.assertEqual(house.give(0), (0, 3, 0))
        self.assertEqual(house.fetch("b"), 1)


class Kept(unittest.TestCase):
    def test_keep_as_returns_whether_something_was_kept_before(self):
        house = House(one_maker(PLAIN))
        self.assertEqual([house.keep_as("a"), house.keep_as("b"), house.keep_as("a")], [False, False, True])
        self.assertIs(house.keep_as("abcdefgh"), False)
        self.assertIs(house.keep_as("zyxwvuts"), False)
        self.assertEqual(house.kept_under, ["a", "abcdefgh", "b", "zyxwvuts"])
        self.assertEqual(house.history[:2], [("keep_as", "a"), ("keep_as", "b")])

    def test_fetch_returns_to_what_was_kept_last(self):
        setup = one_maker(PLAIN)
        house = House(setup)
        house.apply_all([("give", 0), ("clock", 0, 1), ("keep_as", "a"), ("give", 0), ("give", 0), ("clock", 0, 0)])
        self.assertEqual(house.fetch("a"), 1)
        self.assertEqual(house.standing_now, ((1, 0, 0, -1),))
        self.assertEqual(house.numbers_given, [(0, 3, 0)])
        found = [house.give(0), house.keep_as("a"), house.give(0), house.fetch("a")]
        self.assertEqual(found, [(1, 3, 0), True, (1, 3, 1), 2])
        self.assertEqual(house.standing_now, ((1, 1, 0, -1),))
        self.assertEqual(house.numbers_given, [(0, 3, 0), (1, 3, 0)])

    def test_what_is_kept_stays(self):
        house = House(one_maker(PLAIN))
        house.apply_all([("keep_as", "a"), ("give", 0), ("keep_as", "b"), ("give", 0), ("keep_as", "c")])
        self.assertEqual([house.fetch("a"), house.kept_under], [0, ["a", "b", "c"]])
        self.assertEqual([house.fetch("c"), house.fetch("a"), house.fetch("b")], [2, 0, 1])
        self.assertEqual(house.kept_under, ["a", "b", "c"])

    def test_what_the_properties_tell_behind_a_fetch(self):
        house = House(one_maker(PLAIN))
        operations = [("keep_as", "a"), ("give", 0), ("clock", 0, 1), ("give", 0), ("clock", 0, 0), ("give", 0)]
        house.apply_all(operations)
        self.assertEqual([house.has_clash, house.is_orderly], [True, False])
        house.fetch("a")
        self.assertEqual(seen(house), [((0, -1, 0, -1),), [], False, True, ["a"], operations + [("fetch", "a")]])
        house.give(0)
        self.assertEqual([house.has_clash, house.is_orderly], [False, True])
        self.assertEqual(house.history, operations + [("fetch", "a"), ("give", 0)])

    def test_numbers_that_clash_may_be_kept(self):
        house = House(one_maker(PLAIN, limit=0))
        house.apply_all([("keep_as", "a"), ("give", 0), ("give", 0), ("keep_as", "b"), ("fetch", "a")])
        self.assertEqual([house.has_clash, house.is_orderly, house.fetch("b")], [False, True, 2])
        self.assertEqual([house.has_clash, house.is_orderly], [True, False])

    def test_names_that_are_none(self):
        house = House(one_maker(PLAIN))
        house.give(0)
        house.undo()
        for name in NO_NAMES:
            with self.subTest(name=name), self.assertRaises(InvalidName):
                house.keep_as(name)
        self.assertEqual(seen(house), seen(House(one_maker(PLAIN))))
        self.assertIs(house.redo(), True)

    def test_what_is_not_kept(self):
        house = House(one_maker(PLAIN))
        house.apply_all([("keep_as", "a"), ("give", 0)])
        house.undo()
        for name in ("b", "aa", "standing", *NO_NAMES):
            with self.subTest(name=name), self.assertRaises(UnknownKept):
                house.fetch(name)
        self.assertEqual(house.history, [("keep_as", "a")])
        self.assertIs(house.redo(), True)

    def test_what_was_kept_and_that_was_undone(self):
        house = House(one_maker(PLAIN))
        house.give(0)
        house.keep_as("a")
        house.undo()
        self.assertEqual(house.kept_under, [])
        with self.assertRaises(UnknownKept):
            house.fetch("a")
        house.redo()
        self.assertEqual([house.kept_under, house.fetch("a")], [["a"], 1])

    def test_a_second_keeping_that_was_undone_leaves_the_first(self):
        house = House(one_maker(PLAIN))
        house.apply_all([("keep_as", "a"), ("give", 0), ("keep_as", "a")])
        house.undo()
        self.assertEqual(house.fetch("a"), 0)
        house.undo()
        self.assertIs(house.redo(), True)
        self.assertEqual(house.fetch("a"), 0)


class UndoAndRedo(unittest.TestCase):
    def test_through_several_operations(self):
        setup = two_makers(SAVING, PLAIN, (1, 1))
        operations = [
            ("give", 0), ("clock", 1, 2), ("keep_as", "a"), ("give", 1), ("restart", 0), ("keep_as", "b"),
            ("fetch", "a"), ("give", 0), ("keep_as", "a"), ("fetch", "b"), ("give", 1),
        ]
        house = House(setup)
        states = [seen(house)]
        for operation in operations:
            called(house, operation)
            states.append(seen(house))
        for state in states[-2::-1]:
            self.assertIs(house.undo(), True)
            self.assertEqual(seen(house), state)
        self.assertIs(house.undo(), False)
        for state in states[1:]:
            self.assertIs(house.redo(), True)
            self.assertEqual(seen(house), state)
        self.assertIs(house.redo(), False)
        self.assertEqual(seen(house), states[-1])

    def test_the_one_that_was_undone_last_is_executed_first(self):
        house = House(one_maker(PLAIN))
        house.apply_all([("give", 0), ("clock", 0, 1), ("restart", 0)])
        house.undo(), house.undo(), house.redo()
        self.assertEqual(house.history, [("give", 0), ("clock", 0, 1)])
        house.undo(), house.undo(), house.redo(), house.redo(), house.redo()
        self.assertEqual(house.history, [("give", 0), ("clock", 0, 1), ("restart", 0)])

    def test_behind_an_operation_that_came_in_between(self):
        for operation in (("give", 0), ("clock", 0, 2), ("restart", 0), ("keep_as", "b"), ("fetch", "a")):
            house = House(one_maker(PLAIN))
            house.apply_all([("keep_as", "a"), ("give", 0), ("clock", 0, 1), ("give", 0)])
            house.undo(), house.undo()
            called(house, operation)
            self.assertIs(house.redo(), False)
            self.assertEqual(house.history, [("keep_as", "a"), ("give", 0), operation])
            house.undo()
            self.assertIs(house.redo(), True)
            self.assertIs(house.redo(), False)
            self.assertEqual(house.history, [("keep_as", "a"), ("give", 0), operation])

    def test_behind_an_operation_that_raised_an_error(self):
        house = House(one_maker(PLAIN))
        house.apply_all([("give", 0), ("clock", 0, 1)])
        house.undo()
        for operation, error in (
            (("give", 1), UnknownMaker), (("clock", 0, 0), InvalidEvent), (("restart", True), UnknownMaker),
            (("keep_as", "A"), InvalidName), (("fetch", "a"), UnknownKept),
        ):
            with self.assertRaises(error):
                called(house, operation)
            with self.assertRaises(error):
                house.apply_all([("give", 0), operation])
        with self.assertRaises(InvalidOperation):
            house.apply_all([("give", 0), ()])
        self.assertEqual([house.history, house.redo(), house.redo()], [[("give", 0)], True, False])
        self.assertEqual(house.history, [("give", 0), ("clock", 0, 1)])

    def test_a_fetch_that_is_undone(self):
        house = House(one_maker(PLAIN))
        house.apply_all([("give", 0), ("keep_as", "a"), ("give", 0), ("give", 0), ("fetch", "a")])
        self.assertEqual(house.numbers_given, [(0, 3, 0)])
        house.undo()
        self.assertEqual([house.numbers_given, house.has_clash], [[(0, 3, 0), (0, 3, 1), (0, 3, 0)], True])
        house.redo()
        self.assertEqual([house.numbers_given, house.has_clash], [[(0, 3, 0)], False])


class ApplyAll(unittest.TestCase):
    def test_every_operation_and_its_result(self):
        house = House(one_maker(PLAIN))
        operations = [
            ("clock", 0, 2), ("give", 0), ("restart", 0), ("keep_as", "a"), ("clock", 0, 1), ("undo",), ("redo",),
            ("redo",), ("give", 0), ("fetch", "a"), ("keep_as", "a"), ("undo",), ("undo",), ("undo",), ("give", 0),
            ("redo",),
        ]
        found = house.apply_all(operations)
        self.assertEqual(found, [
            2, (2, 3, 0), False, False, -1, True, True, False, (1, 3, 0), 1, True, True, True, True, (1, 3, 0), False,
        ])
        # True is equal to 1, so the kinds are looked at as well.
        self.assertEqual([at for at, result in enumerate(found) if type(result) is int], [0, 4, 9])
        self.assertEqual([at for at, result in enumerate(found) if type(result) is tuple], [1, 8, 14])
        self.assertEqual(house.history, [
            ("clock", 0, 2), ("give", 0), ("restart", 0), ("keep_as", "a"), ("clock", 0, 1), ("give", 0),
        ])

    def test_no_operations(self):
        house = House(one_maker(PLAIN))
        house.give(0)
        house.undo()
        self.assertEqual([house.apply_all([]), house.history, house.redo()], [[], [], True])

    def test_undo_of_what_came_before(self):
        house = House(one_maker(PLAIN))
        house.give(0)
        found = house.apply_all([("undo",), ("undo",), ("redo",), ("give", 0)])
        self.assertEqual(found, [True, False, True, (0, 3, 1)])
        self.assertEqual(house.history, [("give", 0), ("give", 0)])

    def test_each_operation_is_undone_alone(self):
        house = House(one_maker(PLAIN))
        house.apply_all([("give", 0), ("give", 0)])
        house.undo()
        self.assertEqual(house.numbers_given, [(0, 3, 0)])

    def test_what_is_no_operation_is_told_first(self):
        for wrong in NO_OPERATIONS:
            for at, operations in (
                (0, [wrong]), (1, [("give", 0), wrong, wrong]), (2, [("give", 9), ("fetch", "x"), wrong]),
                (3, [("clock", 0, 0), ("keep_as", 0), ("undo",), wrong, ("give", 0)]),
            ):
                house = House(one_maker(PLAIN))
                house.apply_all([("give", 0), ("give", 0)])
                house.undo()
                with self.subTest(wrong=wrong), self.assertRaises(InvalidOperation) as caught:
                    house.apply_all(operations)
                self.assertEqual(caught.exception.index, at)
                self.assertEqual(house.history, [("give", 0)])
                self.assertIs(house.redo(), True)

    def test_arguments_that_are_wrong_are_no_invalid_operation(self):
        house = House(one_maker(PLAIN))
        for operation, error in (
            (("give", None), UnknownMaker), (("clock", "x", "y"), UnknownMaker), (("clock", 0, "y"), InvalidEvent),
            (("keep_as", 5), InvalidName), (("fetch", 5), UnknownKept), (("fetch", []), UnknownKept),
        ):
            with self.subTest(operation), self.assertRaises(error):
                house.apply_all([operation])

    def test_an_error_in_the_middle_changes_nothing(self):
        for wrong, error in (
            (("give", 1), UnknownMaker), (("clock", 0, 0), InvalidEvent), (("keep_as", "1"), InvalidName),
            (("fetch", "none"), UnknownKept), (("fetch", "fresh"), UnknownKept),
        ):
            for ahead in (
                [], [("give", 0)], [("undo",)], [("undo",), ("undo",), ("restart", 0)], [("redo",), ("redo",)],
                [("keep_as", "a"), ("keep_as", "late")], [("fetch", "a")], [("keep_as", "fresh"), ("undo",)],
                [("undo",)] * 9,
            ):
                house = House(one_maker(CAREFUL))
                house.apply_all([("keep_as", "a"), ("give", 0), ("give", 0), ("give", 0), ("keep_as", "b")])
                house.apply_all([("undo",), ("undo",)])
                before = whole(house)
                with self.subTest(wrong=wrong, ahead=ahead), self.assertRaises(error):
                    house.apply_all(ahead + [wrong, ("give", 0)])
                self.assertEqual(whole(house), before)
                self.assertEqual([house.redo(), house.redo(), house.redo()], [True, True, False])

    def test_replay(self):
        setup = two_makers(CAREFUL, PLAIN)
        operations = [("give", 0), ("keep_as", "a"), ("give", 1), ("undo",), ("give", 0), ("fetch", "a"), ("undo",)]
        house = House.replay(setup, operations)
        self.assertIsInstance(house, House)
        other = House(setup)
        other.apply_all(operations)
        self.assertEqual(whole(house), whole(other))
        self.assertIs(house.redo(), True)
        self.assertEqual(seen(House.replay(setup, house.history)), seen(house))
        self.assertEqual(seen(House.replay(setup, [])), seen(House(setup)))

    def test_replay_raises_the_errors_of_apply_all(self):
        setup = one_maker(PLAIN)
        with self.assertRaises(InvalidOperation) as caught:
            House.replay(setup, [("give", 5), ("give", 0), ("give",)])
        self.assertEqual(caught.exception.index, 2)
        for operation, error in (
            (("give", 5), UnknownMaker), (("clock", 0, 0), InvalidEvent), (("keep_as", ""), InvalidName),
            (("fetch", "a"), UnknownKept),
        ):
            with self.assertRaises(error):
                House.replay(setup, [("give", 0), operation])

    def test_replay_of_a_derived_class_returns_one_of_it(self):
        class Own(House):
            pass

        self.assertIs(type(Own.replay(one_maker(PLAIN), [("give", 0)])), Own)


class Trials(unittest.TestCase):
    def ready(self):
        house = House(one_maker(PLAIN))
        house.apply_all([("give", 0), ("keep_as", "a"), ("give", 0), ("clock", 0, 1), ("undo",), ("undo",)])
        return house

    BLOCKS = (
        [], [("give", 0)], [("undo",)], [("undo",)] * 3, [("redo",)], [("redo",)] * 3,
        [("keep_as", "a"), ("keep_as", "b")], [("fetch", "a"), ("give", 0)], [("undo",), ("clock", 0, 2)],
    )

    def test_the_house_is_as_it_was_at_the_beginning_of_the_block(self):
        for operations in self.BLOCKS:
            house = self.ready()
            before = whole(house)
            with Trial(house):
                for operation in operations:
                    called(house, operation)
            self.assertEqual(whole(house), before)
            self.assertEqual([house.redo(), house.redo(), house.redo()], [True, True, False])

    def test_the_block_works_in_the_house(self):
        house = self.ready()
        with Trial(house) as trial:
            self.assertIsInstance(trial, Trial)
            self.assertEqual(house.give(0), (0, 3, 1))
            self.assertEqual(house.numbers_given, [(0, 3, 0), (0, 3, 1)])
        self.assertEqual(house.numbers_given, [(0, 3, 0)])

    def test_hold_keeps_all_that_the_block_changed_ahead_of_it_and_behind_it(self):
        for operations in self.BLOCKS:
            for at in range(len(operations) + 1):
                house, other = self.ready(), self.ready()
                with Trial(house) as trial:
                    for operation in operations[:at]:
                        called(house, operation)
                    trial.hold()
                    for operation in operations[at:]:
                        called(house, operation)
                other.apply_all(operations)
                self.assertEqual(whole(house), whole(other))

    def test_an_error_in_the_block_comes_out_of_it(self):
        for error in (KeyError, ZeroDivisionError, InvalidName):
            house = self.ready()
            before = whole(house)
            with self.assertRaises(error):
                with Trial(house):
                    house.give(0)
                    raise error("told")
            self.assertEqual(whole(house), before)
            with self.assertRaises(error):
                with Trial(house) as trial:
                    house.give(0)
                    trial.hold()
                    raise error("told")
            self.assertEqual(house.numbers_given, [(0, 3, 0), (0, 3, 1)])

    def test_an_error_of_the_house_in_the_block(self):
        house = self.ready()
        before = whole(house)
        with self.assertRaises(UnknownKept):
            with Trial(house):
                house.undo()
                house.fetch("a")
        self.assertEqual(whole(house), before)

    def test_blocks_in_blocks(self):
        house = self.ready()
        before = whole(house)
        with Trial(house):
            with Trial(house) as inner:
                house.give(0)
                inner.hold()
            self.assertEqual(len(house.numbers_given), 2)
            with Trial(house):
                house.give(0)
            self.assertEqual(len(house.numbers_given), 2)
        self.assertEqual(whole(house), before)
        with Trial(house) as outer:
            house.give(0)
            outer.hold()
            with Trial(house):
                house.give(0)
        self.assertEqual(len(house.numbers_given), 2)

    def test_a_trial_that_is_used_again(self):
        house = self.ready()
        trial = Trial(house)
        trial.hold()
        with trial:
            house.give(0)
        self.assertEqual(house.numbers_given, [(0, 3, 0)])
        with trial:
            house.give(0)
            trial.hold()
        self.assertEqual(len(house.numbers_given), 2)
        with trial:
            house.give(0)
        self.assertEqual(len(house.numbers_given), 2)

    def test_two_houses(self):
        one, other = self.ready(), self.ready()
        with Trial(one):
            one.give(0), other.give(0)
        self.assertEqual([len(one.numbers_given), len(other.numbers_given)], [1, 2])

    def test_tried_out(self):
        for operations in self.BLOCKS:
            house, other = self.ready(), self.ready()
            before = whole(house)
            results = other.apply_all(operations)
            self.assertEqual(house.tried_out(operations, False), results)
            self.assertEqual(whole(house), before)
            self.assertEqual(house.tried_out(operations, True), results)
            self.assertEqual(whole(house), whole(other))

    def test_tried_out_raises_the_errors_of_apply_all(self):
        for keep in (True, False):
            house = self.ready()
            before = whole(house)
            with self.assertRaises(InvalidOperation) as caught:
                house.tried_out([("give", 0), ("give", 7), ("redo", 0)], keep)
            self.assertEqual(caught.exception.index, 2)
            for operation, error in (
                (("give", 5), UnknownMaker), (("clock", 0, 0), InvalidEvent), (("keep_as", ""), InvalidName),
                (("fetch", "b"), UnknownKept),
            ):
                with self.assertRaises(error):
                    house.tried_out([("undo",), ("give", 0), operation], keep)
            self.assertEqual(whole(house), before)


class PlainModel:
    """A house that keeps only which operations are in effect and which were undone."""

    def __init__(self, setup):
        self.setup = setup
        self.done, self.undone = [], []

    def seen(self):
        standing, given, kept = plain_house(self.setup, self.done)
        numbers = [number for _, number in given]
        rows = [[number for by, number in given if by == maker] for maker in range(len(self.setup))]
        is_orderly = all(late > early for row in rows for early, late in zip(row, row[1:]))
        return [standing, numbers, len(numbers) > len(set(numbers)), is_orderly, sorted(kept), list(self.done)]

    def apply(self, operation):
        """Return the result of an operation that raises no error."""
        if operation == ("undo",):
            self.undone += self.done[-1:]
            return self.done.pop() is not None if self.done else False
        if operation == ("redo",):
            self.done += self.undone[-1:]
            return self.undone.pop() is not None if self.undone else False
        before = plain_house(self.setup, self.done)
        self.done, self.undone = self.done + [operation], []
        standing, given, _ = plain_house(self.setup, self.done)
        if operation[0] == "clock":
            return operation[2] - before[0][operation[1]][0]
        if operation[0] == "restart":
            return standing[operation[1]][1] >= 0
        if operation[0] == "give":
            return given[-1][1] if len(given) > len(before[1]) else None
        return operation[1] in before[2] if operation[0] == "keep_as" else len(given)


class AgainstPlainModel(unittest.TestCase):
    def test_many_operations(self):
        chance = random.Random(20)
        operations = [(word, maker) for word in ("give", "give", "restart") for maker in (0, 1, 2)]
        operations += [("clock", maker, reading) for maker in (0, 1) for reading in range(4)]
        operations += [(word, name) for word in ("keep_as", "fetch") for name in ("a", "b", "")]
        operations += [("undo",)] * 5 + [("redo",)] * 5
        for turn in range(60):
            words = chance.sample(ALL_WORDS, 2)
            setup = two_makers(*words, (1, chance.choice((1, 3)))) if turn % 2 else one_maker(words[0])
            house, model = House(setup), PlainModel(setup)
            for _ in range(60):
                operation = chance.choice(operations)
                state = model.done, model.undone
                try:
                    wanted = model.apply(operation)
                except (MakerError, KeyError):
                    model.done, model.undone = state
                    wanted = None
                if operation[0] == "keep_as" and operation[1] == "":
                    model.done, model.undone = state
                    wanted = None
                try:
                    found = called(house, operation) if chance.random() < 0.7 else house.apply_all([operation])[0]
                except MakerError:
                    found = None
                self.assertEqual((found, type(found)), (wanted, type(wanted)))
                self.assertEqual(seen(house), model.seen())

    def test_trials_with_many_operations(self):
        chance = random.Random(7)
        operations = [("give", 0), ("restart", 0), ("keep_as", "a"), ("fetch", "a"), ("undo",), ("undo",), ("redo",)]
        operations += [("clock", 0, reading) for reading in range(3)]
        for _ in range(200):
            house = House(one_maker(chance.choice(ALL_WORDS)))
            for _ in range(15):
                row = [chance.choice(operations) for _ in range(chance.randrange(4))]
                keep = chance.random() < 0.5
                before, after = whole(house), None
                try:
                    house.tried_out(row, keep)
                    after = whole(house)
                except MakerError:
                    keep = False
                self.assertEqual(whole(house), after if keep else before)


class Package(unittest.TestCase):
    def test_what_is_handed_in_is_the_same_behind_the_call(self):
        setup, like = two_makers(PLAIN, CAREFUL), two_makers(PLAIN, CAREFUL)
        house = House(setup)
        for operations in (
            [("give", 0), ("keep_as", "a"), ("undo",)], [], [("give", 0), ("give", 9)], [("give", 0), ["give", 0]],
        ):
            before = copy.deepcopy(operations)
            for call in (
                lambda: house.apply_all(operations), lambda: house.tried_out(operations, True),
                lambda: house.tried_out(operations, False), lambda: House.replay(setup, operations),
            ):
                try:
                    call()
                except (UnknownMaker, InvalidOperation):
                    pass
                self.assertEqual(operations, before)
        self.assertEqual(setup, like)

    def test_a_list_of_operations_is_not_kept(self):
        house = House(one_maker(PLAIN))
        operations = [("give", 0), ("give", 0)]
        found = house.apply_all(operations)
        operations.append(("give", 0))
        operations[0] = None
        found.append("changed")
        self.assertEqual(house.history, [("give", 0)] * 2)
        house.undo(), house.undo()
        self.assertEqual(house.apply_all([("redo",), ("redo",), ("redo",)]), [True, True, False])

    def test_houses_of_one_setup_do_not_touch_each_other(self):
        setup = one_maker(PLAIN)
        one, other = House(setup), House(setup)
        one.apply_all([("give", 0), ("keep_as", "a")])
        self.assertEqual(seen(other), seen(House(setup)))

    def test_many_operations(self):
        house = House(one_maker(PLAIN))
        house.apply_all([("give", 0)] * 5000)
        self.assertEqual(len(house.numbers_given), 5000)
        house.keep_as("a")
        while house.undo():
            pass
        self.assertEqual(house.numbers_given, [])
        while house.redo():
            pass
        self.assertEqual(house.fetch("a"), 5000)
