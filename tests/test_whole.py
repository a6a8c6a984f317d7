"""What the document promises over the whole program: its interface, and point 1 for all functions and classes."""

import copy
import importlib
import inspect
import unittest
from pathlib import Path

from manymakers.clashes import (
    clash, disorder, history_count, most_numbers, orderly_plans, parting, safe_plans,
)
from manymakers.codec import decode_setup, encode_setup
from manymakers.errors import MakerError
from manymakers.events import after, begin, run
from manymakers.houses import House
from manymakers.lending import fewest_marks, holders, lent, shortest_length
from manymakers.notation import history_text, number_text, read_history, standing_text
from manymakers.packing import packed, unpacked
from manymakers.scripts import run_script
from manymakers.setups import Plan, Setup
from manymakers.telling import ends_behind, first_wrong, givers, log_way
from manymakers.watching import Watcher
from manymakers.ways import number_way, series_way, standings, way_to
from tests.makers import one_maker, two_makers

INTERFACE = {
    "setups": {
        "Plan": ("on_back", "on_full", "on_restart"), "Setup": ("plans", "marks", "top", "limit", "back", "ahead"),
    },
    "events": {"begin": ("setup",), "after": ("setup", "standing", "event"), "run": ("setup", "events")},
    "ways": {
        "standings": ("setup",), "way_to": ("setup", "standing"), "number_way": ("setup", "number"),
        "series_way": ("setup", "numbers"),
    },
    "clashes": {
        "clash": ("setup",), "disorder": ("setup",), "safe_plans": ("top", "limit", "back", "ahead"),
        "orderly_plans": ("top", "limit", "back", "ahead"), "parting": ("one", "other"), "most_numbers": ("setup",),
        "history_count": ("setup", "length", "given"),
    },
    "lending": {
        "lent": ("count", "length", "asks"), "holders": ("count", "length", "asks", "time"),
        "fewest_marks": ("length", "asks"), "shortest_length": ("count", "asks"),
    },
    "telling": {
        "ends_behind": ("setup", "numbers"), "givers": ("setup", "numbers"), "log_way": ("setup", "log"),
        "first_wrong": ("setup", "log"),
    },
    "packing": {
        "packed": ("number", "mark_width", "counter_width"), "unpacked": ("value", "mark_width", "counter_width"),
    },
    "houses": {"House": ("setup",), "Trial": ("house",)},
    "watching": {"Watcher": ("setup",)},
    "notation": {
        "history_text": ("events",), "number_text": ("number",), "standing_text": ("setup", "standing"),
        "read_history": ("setup", "text"),
    },
    "codec": {"encode_setup": ("setup",), "decode_setup": ("values",)},
    "scripts": {"run_script": ("setup", "text")},
}
METHODS = {
    "House": {
        "clock": ("maker", "reading"), "restart": ("maker",), "give": ("maker",), "keep_as": ("name",),
        "fetch": ("name",), "undo": (), "redo": (), "apply_all": ("operations",), "tried_out": ("operations", "keep"),
        "replay": ("setup", "operations"),
    },
    "Trial": {"hold": ()},
    "Watcher": {"seen": ("number",), "next_numbers": (), "sure_giver": (), "sure_parts": ()},
}
ONE = one_maker(("trust", "wrap", "forget"), top=1, limit=1, back=1, ahead=1)
TWO = two_makers(("refuse", "refuse", "wait"), ("hold", "borrow", "saved"), (1, 1), top=1, limit=0, back=1, ahead=1)
ASKS = ((0, 5), (3, 6), (5, 7), (10, 5), (10, 7))
OPERATIONS = [
    ("give", 0), ("keep_as", "a"), ("clock", 0, 1), ("give", 0), ("fetch", "a"), ("undo",), ("redo",), ("give", 0),
]

# Calls of all functions, with what they return errors for as well.
CALLS = [
    (begin, ONE), (begin, TWO), (after, TWO, begin(TWO), ("give", 1)), (after, ONE, begin(ONE), ("give", 1)),
    (run, ONE, [("give", 0), ("clock", 0, 1), ("give", 0)]), (run, ONE, [("give", 0), ("clock", 0, 0)]), (run, TWO, []),
    (standings, ONE), (standings, TWO), (way_to, ONE, ((1, 0, 1, -1),)), (way_to, ONE, begin(ONE)), (way_to, ONE, ()),
    (number_way, TWO, (1, 1, 0)), (number_way, TWO, (1, 1)), (series_way, ONE, [(0, 3, 0), (1, 3, 0)]),
    (series_way, ONE, []), (series_way, ONE, [(0, 3, 0), None]), (series_way, TWO, [(0, 1, 0)] * 3),
    (clash, ONE), (clash, TWO), (disorder, ONE), (disorder, TWO), (safe_plans, 1, 1, 1, 1), (orderly_plans, 1, 0, 0, 1),
    (safe_plans, 1, 2, 1, 1), (parting, ONE, one_maker(("hold", "wrap", "forget"), top=1, limit=1, back=1, ahead=1)),
    (parting, ONE, ONE), (parting, ONE, TWO), (most_numbers, ONE), (most_numbers, TWO), (history_count, ONE, 5, 2),
    (history_count, TWO, 5, -1), (lent, 2, 10, ASKS), (holders, 2, 10, ASKS, 12), (fewest_marks, 10, ASKS),
    (shortest_length, 2, ASKS), (lent, 2, 10, ((5, 1), (4, 1))), (holders, 2, 10, ASKS, -1),
    (ends_behind, TWO, [(0, 1, 0)]), (ends_behind, ONE, []), (ends_behind, ONE, [(0, 3, 0), 1]),
    (givers, TWO, [(0, 1, 0), (0, 1, 0)]), (givers, ONE, [(9, 9, 9)]), (givers, ONE, [()]),
    (log_way, TWO, [(1, (0, 1, 0)), (0, (0, 1, 0)), (0, None)]), (log_way, ONE, []), (log_way, ONE, [(1, None)]),
    (first_wrong, TWO, [(1, (0, 1, 0)), (1, (0, 1, 0))]), (first_wrong, ONE, [(0, (0, 3, 0)), 5]),
    (packed, (5, 1, 2), 4, 3), (packed, (5, 1, 2), 0, 3), (unpacked, 650, 4, 3), (unpacked, -1, 4, 3),
    (House.replay, ONE, OPERATIONS), (House.replay, TWO, OPERATIONS), (House.replay, ONE, [("give", 0), ("give",)]),
    (history_text, [("clock", 0, 1), ("give", 0)]), (history_text, []), (number_text, (1, 2, 3)), (number_text, None),
    (number_text, (1, 2)), (standing_text, TWO, begin(TWO)), (standing_text, TWO, begin(ONE)),
    (read_history, ONE, "clock 0 1\ngive 0"), (read_history, ONE, ""), (read_history, ONE, "clock 0"),
    (read_history, ONE, "clock 0 0"), (encode_setup, ONE), (encode_setup, TWO), (decode_setup, encode_setup(TWO)),
    (decode_setup, [127, 3]), (run_script, ONE, "repeat 3\ngive 0\nend\ncount"), (run_script, ONE, ""),
    (run_script, ONE, "end"), (run_script, ONE, "give 7"), (run_script, ONE, "repeat 99\n" * 4 + "end\n" * 3 + "end"),
]


def plain_form(value):
    """Return a value in a form that can be compared, with houses and errors by what they tell."""
    if isinstance(value, House):
        return [
            value.standing_now, value.numbers_given, value.has_clash, value.is_orderly, value.kept_under, value.history,
        ]
    if isinstance(value, MakerError):
        return [type(value).__name__, vars(value)]
    if isinstance(value, (tuple, list)):
        return type(value), [plain_form(item) for item in value]
    return type(value), value


def told(function, arguments):
    try:
        return function(*arguments)
    except MakerError as error:
        return error


def spoil(value):
    """Change all lists in a value."""
    if isinstance(value, (tuple, list)):
        for item in list(value):
            spoil(item)
    if isinstance(value, list):
        value.append("changed")
        value[0] = "changed"
        value.reverse()


class Interface(unittest.TestCase):
    def test_names_and_parameters_are_those_of_the_document(self):
        for module, names in INTERFACE.items():
            found = importlib.import_module(f"manymakers.{module}")
            for name, parameters in names.items():
                with self.subTest(name):
                    made = vars(found)[name]
                    self.assertEqual(made.__module__, f"manymakers.{module}")
                    self.assertEqual(tuple(inspect.signature(made).parameters), parameters)

    def test_methods_stand_in_their_classes(self):
        for module, names in INTERFACE.items():
            for name in names:
                for method, parameters in METHODS.get(name, {}).items():
                    with self.subTest(method):
                        made = vars(importlib.import_module(f"manymakers.{module}"))[name]
                        self.assertIn(method, vars(made))
                        found = tuple(inspect.signature(getattr(made, method)).parameters)
                        self.assertEqual(tuple(part for part in found if part != "self"), parameters)

    def test_the_package_imports_nothing_that_reads_clocks_files_or_chance(self):
        folder = Path(__file__).resolve().parent.parent / "manymakers"
        for path in folder.glob("*.py"):
            for line in path.read_text(encoding="utf-8").split("\n"):
                if line.startswith(("import ", "from ")):
                    self.assertRegex(line, r"^from (manymakers\.[a-z]+|math) import ")


class AllCalls(unittest.TestCase):
    def test_each_function_is_called(self):
        called = {call[0].__name__ for call in CALLS}
        functions = {name for names in INTERFACE.values() for name in names if name[0].islower()}
        self.assertEqual(functions - called, set())

    def test_what_is_handed_in_is_the_same_behind_the_call(self):
        for function, *arguments in CALLS:
            with self.subTest(function=function.__name__, arguments=arguments):
                handed = copy.deepcopy(arguments)
                told(function, handed)
                self.assertEqual(handed, arguments)

    def test_repeated_calls_return_equal_results(self):
        first = [plain_form(told(function, arguments)) for function, *arguments in CALLS]
        # All other calls come between two calls of the same.
        for _ in range(2):
            for (function, *arguments), wanted in zip(CALLS, first):
                with self.subTest(function=function.__name__, arguments=arguments):
                    self.assertEqual(plain_form(told(function, arguments)), wanted)
        for (function, *arguments), wanted in reversed(list(zip(CALLS, first))):
            self.assertEqual(plain_form(told(function, arguments)), wanted)

    def test_a_returned_list_that_is_changed_does_not_change_a_later_answer(self):
        for function, *arguments in CALLS:
            with self.subTest(function=function.__name__, arguments=arguments):
                wanted = plain_form(told(function, arguments))
                spoil(told(function, arguments))
                self.assertEqual(plain_form(told(function, arguments)), wanted)

    def test_a_list_that_is_handed_in_and_changed_later_does_not_change_the_answer(self):
        for function, *arguments in CALLS:
            with self.subTest(function=function.__name__, arguments=arguments):
                handed = copy.deepcopy(arguments)
                found = told(function, handed)
                before = plain_form(found)
                spoil(handed)
                self.assertEqual(plain_form(found), before)

    def test_errors_are_of_the_base_class_and_of_this_package(self):
        found = [told(function, arguments) for function, *arguments in CALLS]
        errors = [error for error in found if isinstance(error, Exception)]
        self.assertGreater(len(errors), 15)
        for error in errors:
            self.assertEqual(type(error).__bases__, (MakerError,))


class Booleans(unittest.TestCase):
    """A boolean is not an integer, wherever an integer is asked for and an error is named for what is none."""

    def test_each_place(self):
        good = (0, 3, 0)
        calls = [
            (Setup, (Plan("trust", "wrap", "forget"),), (True,), 1, 1, 1, 1),
            (Setup, (Plan("trust", "wrap", "forget"),), (1,), True, 1, 1, 1),
            (after, ONE, ((False, -1, 0, -1),), ("give", 0)), (after, ONE, begin(ONE), ("give", False)),
            (after, ONE, begin(ONE), ("clock", 0, True)), (run, ONE, [("clock", False, 1)]),
            (way_to, ONE, ((True, -1, 0, -1),)), (number_way, ONE, (False, 3, 0)), (series_way, ONE, [(0, 3, False)]),
            (safe_plans, True, 1, 1, 1), (orderly_plans, 1, True, 1, 1), (history_count, ONE, True, 0),
            (history_count, ONE, 1, False), (lent, True, 1, ()), (lent, 1, True, ()), (lent, 1, 1, ((False, 1),)),
            (lent, 1, 1, ((0, True),)), (holders, 1, 1, (), True), (fewest_marks, True, ()),
            (shortest_length, True, ()),
            (ends_behind, ONE, [(0, 3, True)]), (givers, ONE, [good, (False, 3, 0)]), (log_way, ONE, [(False, good)]),
            (log_way, ONE, [(0, (False, 3, 0))]), (log_way, ONE, [(0, False)]), (first_wrong, ONE, [(False, None)]),
            (packed, (True, 0, 0), 1, 1), (packed, (1, 0, 0), True, 1), (packed, (1, 0, 0), 1, True),
            (unpacked, True, 1, 1), (unpacked, 1, True, 1), (unpacked, 1, 1, False),
            (House(ONE).clock, 0, True), (House(ONE).clock, False, 1), (House(ONE).give, False),
            (House(ONE).restart, False), (House(ONE).apply_all, [("give", False)]), (Watcher(ONE).seen, (0, 3, False)),
            (number_text, (True, 0, 0)), (number_text, False), (standing_text, ONE, ((0, False, 0, -1),)),
            (decode_setup, [127, True] + encode_setup(ONE)[2:]), (decode_setup, encode_setup(ONE)[:6] + [True]),
        ]
        for function, *arguments in calls:
            with self.subTest(function=function.__name__, arguments=arguments):
                self.assertIsInstance(told(function, arguments), MakerError)


class Objects(unittest.TestCase):
    def test_houses_and_watchers_are_the_same_behind_a_call_that_raises_an_error(self):
        house, watcher = House.replay(ONE, OPERATIONS + [("undo",)]), Watcher(ONE)
        watcher.seen((0, 3, 0))
        before = plain_form(house), watcher.standings_left, watcher.told_so_far, watcher.sure_giver()
        calls = [
            (house.clock, 0, 9), (house.clock, 5, 0), (house.give, 5), (house.restart, 5), (house.keep_as, "A"),
            (house.fetch, "b"), (house.apply_all, [("undo",), ("undo",), ("give", 5)]),
            (house.apply_all, [("undo", 1)]),
            (house.tried_out, [("undo",), ("give", 5)], True), (house.tried_out, [("give",)], False),
            (watcher.seen, (9, 9, 9)), (watcher.seen, (0, 3)), (watcher.seen, None),
        ]
        for call, *arguments in calls:
            with self.subTest(call=call.__name__, arguments=arguments):
                self.assertIsInstance(told(call, arguments), MakerError)
                after_call = plain_form(house), watcher.standings_left, watcher.told_so_far, watcher.sure_giver()
                self.assertEqual(after_call, before)
        self.assertEqual([house.redo(), house.redo()], [True, False])

    def test_a_setup_serves_several_objects(self):
        setup, like = one_maker(("trust", "wrap", "forget")), one_maker(("trust", "wrap", "forget"))
        house, watcher = House(setup), Watcher(setup)
        house.apply_all([("give", 0), ("clock", 0, 2), ("give", 0)])
        for number in house.numbers_given:
            watcher.seen(number)
        self.assertEqual(watcher.told_so_far, house.numbers_given)
        self.assertIn(house.standing_now, watcher.standings_left)
        self.assertEqual(setup, like)

    def test_a_history_of_a_house_is_read_from_a_text(self):
        house = House.replay(TWO, [("give", 1), ("clock", 0, 1), ("give", 0), ("restart", 1), ("give", 1)])
        text = history_text(house.history)
        self.assertEqual(read_history(TWO, text), house.history)
        self.assertEqual(run_script(TWO, text)[0].history, house.history)
        log = list(zip((1, 0, 1), run(TWO, house.history)[1]))
        self.assertIsNone(first_wrong(TWO, log))
