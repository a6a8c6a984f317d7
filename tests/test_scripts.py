import random
import re
import unittest

from manymakers import scripts
from manymakers.errors import ExecutionFailed, MakerError, ScriptError, TooLong
from manymakers.events import after, begin, run
from manymakers.houses import House
from manymakers.scripts import run_script
from tests.makers import ALL_WORDS, one_maker, two_makers

PLAIN = ("trust", "wrap", "forget")
CAREFUL = ("refuse", "refuse", "wait")
NUMBER = "(?:[0-9]|[1-9][0-9])"
ROWS = {
    "clock": f"clock {NUMBER} {NUMBER}", "restart": f"restart {NUMBER}", "give": f"give {NUMBER}", "count": "count",
    "repeat": f"repeat {NUMBER}", "when": f"when {NUMBER} {NUMBER}", "end": "end",
}
NO_NUMBER_WORDS = (
    "", "00", "01", "09", "100", "000", "001", "999", "1000", "-0", "-1", "+1", "+0", "1-", "x", "1x", "x1", "1.0",
    "one", "1_0", "\t1", "1\t", "1\r", "\u00b2", "\u0663", "1\u0663", "\uff11", "None", "True", "0x1", "1,", "--",
)


def lines(*rows):
    return "\n".join(rows)


def plain_script_error(text):
    """Return the row that ScriptError has for a text, None for a good script."""
    depth = 0
    rows = text.split("\n") if text else []
    for at, row in enumerate(rows):
        word = row.split(" ")[0]
        if at == 60 or word not in ROWS or not re.fullmatch(ROWS[word], row):
            return at
        depth += (word in ("repeat", "when")) - (word == "end")
        if depth in (-1, 5):
            return at
    return len(rows) if depth else None


class PlainExecution:
    """A script that is executed row by row, with a list of the blocks in which a row is."""

    def __init__(self, setup, text):
        self.setup = setup
        self.rows = [row.split(" ") for row in text.split("\n")] if text else []
        self.standing, self.numbers, self.history, self.output = begin(setup), [], [], []
        self.steps = 0
        self.told = self.execute()

    def step(self):
        if self.steps == 300:
            raise TooLong("told")
        self.steps += 1

    def behind_end(self, at):
        depth = 1
        while depth:
            at += 1
            depth += (self.rows[at][0] in ("repeat", "when")) - (self.rows[at][0] == "end")
        return at + 1

    def execute(self):
        """Return the name of the error and its row, or "done"."""
        at, blocks = 0, []
        try:
            while at < len(self.rows):
                word, *numbers = self.rows[at]
                numbers = [int(number) for number in numbers]
                if word == "end":
                    head, left = blocks.pop()
                    if left:
                        self.step()
                        blocks.append((head, left - 1))
                        at = head
                    at += 1
                    continue
                self.step()
                if word == "repeat":
                    if numbers[0]:
                        self.step()
                        blocks.append((at, numbers[0] - 1))
                    else:
                        at = self.behind_end(at) - 1
                elif word == "when":
                    if numbers[0] >= len(self.setup):
                        return "ExecutionFailed", at
                    if self.standing[numbers[0]][0] == numbers[1]:
                        blocks.append((at, 0))
                    else:
                        at = self.behind_end(at) - 1
                elif word == "count":
                    self.output.append(str(len(self.numbers)))
                else:
                    self.happen((word, *numbers))
                at += 1
        except TooLong:
            return "TooLong", None
        except MakerError:
            return "ExecutionFailed", at
        return "done", None

    def happen(self, event):
        self.standing, number = after(self.setup, self.standing, event)
        self.history.append(event)
        if number is not None:
            self.numbers.append(number)
        if event[0] == "give":
            self.output.append("none" if number is None else "{}.{}.{}".format(*number))


class Case(unittest.TestCase):
    def script_error(self, text, setup=None):
        with self.assertRaises(ScriptError) as caught:
            run_script(setup or one_maker(PLAIN), text)
        return caught.exception.row

    def failed_row(self, text, setup=None):
        with self.assertRaises(ExecutionFailed) as caught:
            run_script(setup or one_maker(PLAIN), text)
        return caught.exception.row

    def output(self, text, setup=None):
        return run_script(setup or one_maker(PLAIN), text)[1]

    def too_long(self, text, setup=None):
        with self.assertRaises(TooLong):
            run_script(setup or one_maker(PLAIN), text)


class Interface(unittest.TestCase):
    def test_the_function_is_defined_where_it_is_listed(self):
        self.assertEqual(run_script.__module__, scripts.__name__)

    def test_the_parameters_have_the_names_of_the_document(self):
        house, output = run_script(setup=one_maker(PLAIN), text="count")
        self.assertIsInstance(house, House)
        self.assertEqual(output, ["0"])

    def test_a_tuple_of_a_house_and_a_list(self):
        found = run_script(one_maker(PLAIN), "give 0")
        self.assertEqual((type(found), len(found), type(found[0]), type(found[1])), (tuple, 2, House, list))


class Rows(Case):
    def test_no_rows(self):
        for setup in (one_maker(PLAIN), two_makers(PLAIN, CAREFUL)):
            house, output = run_script(setup, "")
            self.assertEqual(output, [])
            self.assertEqual([house.history, house.standing_now, house.undo()], [[], begin(setup), False])

    def test_rows_of_events(self):
        setup = two_makers(CAREFUL, PLAIN, limit=0)
        text = lines("give 0", "clock 1 2", "give 0", "give 1", "restart 0", "clock 0 1", "clock 0 0", "give 0")
        house, output = run_script(setup, text)
        self.assertEqual(output, ["0.1.0", "none", "2.3.0", "none"])
        history = [
            ("give", 0), ("clock", 1, 2), ("give", 0), ("give", 1), ("restart", 0), ("clock", 0, 1), ("clock", 0, 0),
            ("give", 0),
        ]
        self.assertEqual(house.history, history)
        self.assertEqual(house.standing_now, run(setup, history)[0])
        self.assertEqual(house.numbers_given, [(0, 1, 0), (2, 3, 0)])

    def test_each_row_of_events_is_an_operation(self):
        house, _ = run_script(one_maker(PLAIN), lines("give 0", "count", "when 0 0", "clock 0 1", "end", "give 0"))
        self.assertEqual([house.undo(), house.history], [True, [("give", 0), ("clock", 0, 1)]])
        self.assertEqual([house.undo(), house.undo(), house.undo()], [True, True, False])
        self.assertEqual([house.redo(), house.redo(), house.redo(), house.redo()], [True, True, True, False])

    def test_count_writes_how_many_numbers_were_given(self):
        setup = one_maker(CAREFUL, limit=0)
        found = self.output(lines("count", "give 0", "count", "give 0", "count"), setup)
        self.assertEqual(found, ["0", "0.3.0", "1", "none", "1"])
        house, _ = run_script(setup, lines("count", "count"))
        self.assertEqual(house.history, [])
        self.assertEqual(self.output(lines("repeat 12", "give 0", "end", "count"))[-1], "12")

    def test_repeat(self):
        for many in (0, 1, 2, 9, 10, 99):
            house, output = run_script(one_maker(PLAIN), lines(f"repeat {many}", "give 0", "end"))
            self.assertEqual(len(output), many)
            self.assertEqual(house.history, [("give", 0)] * many)
        self.assertEqual(self.output(lines("repeat 3", "end", "count")), ["0"])
        self.assertEqual(self.output(lines("repeat 2", "give 0", "count", "end")), ["0.3.0", "1", "0.3.1", "2"])

    def test_repeat_0_does_not_execute_its_rows(self):
        text = lines("repeat 0", "give 9", "clock 0 0", "when 9 9", "end", "repeat 99", "give 7", "end", "end", "count")
        self.assertEqual(self.output(text), ["0"])

    def test_when_the_clock_shows_the_reading(self):
        self.assertEqual(self.output(lines("when 0 0", "count", "end")), ["0"])
        self.assertEqual(self.output(lines("when 0 1", "count", "end")), [])
        text = lines("clock 0 1", "when 0 1", "count", "end", "when 0 0", "count", "count", "end")
        self.assertEqual(self.output(text), ["0"])
        setup = two_makers(PLAIN, PLAIN)
        text = lines("clock 1 2", "when 1 2", "give 0", "end", "when 0 2", "give 1", "end", "when 0 0", "give 1", "end")
        self.assertEqual(self.output(text, setup), ["0.1.0", "2.3.0"])

    def test_when_with_a_reading_that_no_clock_shows(self):
        for reading in (3, 9, 10, 99):
            self.assertEqual(self.output(lines(f"when 0 {reading}", "give 5", "end", "count")), ["0"])

    def test_when_asks_for_the_clock_and_not_for_the_last_reading(self):
        setup = one_maker(("hold", "refuse", "forget"))
        text = lines("clock 0 2", "give 0", "clock 0 1", "when 0 2", "give 0", "end", "when 0 1", "count", "end")
        self.assertEqual(self.output(text, setup), ["2.3.0", "1"])

    def test_a_block_goes_on_though_its_rows_change_the_clock(self):
        text = lines("when 0 0", "clock 0 1", "give 0", "clock 0 2", "give 0", "end", "count")
        self.assertEqual(self.output(text), ["1.3.0", "2.3.0", "2"])
        text = lines("repeat 3", "when 0 0", "clock 0 1", "end", "when 0 1", "clock 0 0", "give 0", "end", "end")
        self.assertEqual(self.output(text), ["0.3.0", "0.3.1", "0.3.0"])

    def test_blocks_in_blocks_up_to_four_deep(self):
        text = lines("repeat 2", "repeat 3", "when 0 0", "repeat 2", "give 0", "end", "end", "count", "end", "end")
        self.assertEqual(self.output(text)[2::3], ["2", "4", "6", "8", "10", "12"])
        for words in (("repeat 1",) * 4, ("when 0 0",) * 4, ("repeat 1", "when 0 0") * 2):
            text = lines(*words, "count", *["end"] * 4, "count")
            self.assertEqual(self.output(text), ["0", "0"])
        # One behind another, there may be more than four.
        self.assertEqual(self.output(lines(*["repeat 1", "when 0 0", "count", "end", "end"] * 12)), ["0"] * 12)

    def test_sixty_rows(self):
        self.assertEqual(self.output(lines(*["count"] * 60)), ["0"] * 60)

    def test_numbers_of_one_or_two_digits(self):
        for number in (0, 1, 9, 10, 42, 90, 99):
            rows = [f"give {number}", f"clock {number} {number}", f"when {number} {number}", "end"]
            text = lines("repeat 0", *rows, "end")
            self.assertEqual(self.output(text), [])


class ScriptErrors(Case):
    def check(self, row):
        """Check that a row is none, wherever it stands, also where it is not executed."""
        with self.subTest(row=row):
            # The empty text has no rows.
            if row:
                self.assertEqual(self.script_error(row), 0)
            self.assertEqual(self.script_error(lines("count", row, "x")), 1)
            self.assertEqual(self.script_error(lines("repeat 0", "count", row, "end")), 2)
            self.assertEqual(self.script_error(lines("when 0 1", "give 9", row)), 2)

    def test_another_first_word(self):
        for word in (
            "", "Give", "COUNT", "counts", "ends", "End", "0", "keep_as", "fetch", "undo", "none", "\tgive", "give\t",
        ):
            for rest in ("", " 0", " 0 0", " x"):
                self.check(word + rest)

    def test_words_that_are_missing_or_superfluous(self):
        for row in (
            "clock", "clock 0", "clock 0 1 1", "restart", "restart 0 0", "give", "give 0 0", "count 0", "count count",
            "repeat", "repeat 1 1", "when", "when 0", "when 0 0 0", "end 0", "end end", "end repeat",
        ):
            self.check(row)

    def test_words_that_are_no_numbers(self):
        for word in NO_NUMBER_WORDS:
            for row in (f"clock {word} 1", f"clock 0 {word}", f"restart {word}", f"give {word}", f"repeat {word}"):
                self.check(row)
            self.check(f"when {word} 0")
            self.check(f"when 0 {word}")

    def test_blanks(self):
        for row in (
            " ", " give 0", "give  0", "give 0 ", "give ", " count", "count ", "end ", " end", "repeat  1", "repeat 1 ",
            "when 0  0", "when  0 0", "when 0 0 ", "clock 0 ", "give\t0",
        ):
            self.check(row)

    def test_empty_rows(self):
        self.check("")
        self.assertEqual(self.script_error("\n"), 0)
        self.assertEqual(self.script_error("count\n"), 1)
        self.assertEqual(self.script_error("count\n\ncount"), 1)
        self.assertEqual(self.script_error("\ncount"), 0)

    def test_rows_are_parted_by_line_feeds_only(self):
        for sign in ("\r", "\r\n", "\x0b", "\x0c", "\x1c", "\x85", "\u2028"):
            self.assertEqual(self.script_error(f"count{sign}count"), 0)

    def test_an_end_without_a_block(self):
        self.assertEqual(self.script_error("end"), 0)
        self.assertEqual(self.script_error(lines("count", "end", "end")), 1)
        self.assertEqual(self.script_error(lines("repeat 1", "end", "end")), 2)
        self.assertEqual(self.script_error(lines("when 0 0", "repeat 1", "end", "end", "count", "end")), 5)

    def test_the_first_row_of_a_fifth_block(self):
        mixed = ("repeat 0", "when 0 5", "repeat 0", "when 7 7", "when 0 0")
        for words in (("repeat 1",) * 5, ("when 0 0",) * 5, mixed):
            self.assertEqual(self.script_error(lines(*words, "count", *["end"] * 5)), 4)
            self.assertEqual(self.script_error(lines(*words)), 4)
            self.assertEqual(self.script_error(lines("count", *words, "x", *["end"] * 5)), 5)
        text = lines(*["repeat 1"] * 4, "end", "repeat 1", "end", "repeat 1", "repeat 1", *["end"] * 5)
        self.assertEqual(self.script_error(text), 8)

    def test_the_61st_row(self):
        self.assertEqual(self.script_error(lines(*["count"] * 61)), 60)
        self.assertEqual(self.script_error(lines(*["count"] * 100)), 60)
        self.assertEqual(self.script_error(lines(*["count"] * 60, "x")), 60)
        self.assertEqual(self.script_error(lines(*["count"] * 60, "")), 60)
        self.assertEqual(self.script_error(lines(*["count"] * 59, "x", *["count"] * 20)), 59)
        self.assertEqual(self.script_error(lines("repeat 1", *["count"] * 59, "end")), 60)

    def test_a_missing_end_has_the_number_of_rows(self):
        self.assertEqual(self.script_error("repeat 1"), 1)
        self.assertEqual(self.script_error(lines("when 0 0", "count")), 2)
        self.assertEqual(self.script_error(lines("repeat 2", "when 0 0", "count", "end", "count")), 5)
        self.assertEqual(self.script_error(lines(*["count"] * 59, "repeat 1")), 60)
        self.assertEqual(self.script_error(lines("repeat 1", "repeat 1", "repeat 1", "repeat 1")), 4)

    def test_the_first_of_several(self):
        self.assertEqual(self.script_error(lines("repeat 1", "count 1", "x")), 1)
        self.assertEqual(self.script_error(lines("end", "x")), 0)
        self.assertEqual(self.script_error(lines("repeat 1", "x")), 1)
        self.assertEqual(self.script_error(lines(*["repeat 1"] * 4, "x", "repeat 1")), 4)

    def test_ahead_of_all_execution(self):
        self.assertEqual(self.script_error(lines("give 9", "clock 0 0", "end")), 2)
        self.assertEqual(self.script_error(lines("repeat 99", "repeat 99", "end", "end", "give")), 4)


class Execution(Case):
    def test_a_row_that_raises_an_error(self):
        for row in (
            "clock 0 0", "clock 0 3", "clock 0 99", "give 1", "give 99", "restart 2", "clock 1 1", "clock 10 10",
        ):
            with self.subTest(row):
                self.assertEqual(self.failed_row(row), 0)
                self.assertEqual(self.failed_row(lines("count", "give 0", row, "clock 0 0")), 2)
                self.assertEqual(self.failed_row(lines("repeat 2", "count", row, "end")), 2)
                self.assertEqual(self.failed_row(lines("repeat 1", "when 0 0", row, "end", "end")), 2)

    def test_an_unknown_maker_in_when(self):
        for maker in (1, 2, 9, 10, 99):
            for reading in (0, 1, 99):
                with self.subTest(maker=maker, reading=reading):
                    self.assertEqual(self.failed_row(lines("count", f"when {maker} {reading}", "count", "end")), 1)
                    self.assertEqual(self.failed_row(lines(f"when {maker} {reading}", "end")), 0)
        self.assertEqual(self.output(lines("when 1 0", "count", "end"), two_makers(PLAIN, PLAIN)), ["0"])
        self.assertEqual(self.failed_row(lines("when 2 0", "count", "end"), two_makers(PLAIN, PLAIN)), 0)

    def test_what_is_not_executed_does_not_fail(self):
        text = lines(
            "repeat 0", "give 9", "end", "when 0 1", "clock 0 0", "end", "when 0 2", "when 9 0", "end", "end", "count",
        )
        self.assertEqual(self.output(text), ["0"])

    def test_a_row_that_fails_the_second_time(self):
        self.assertEqual(self.failed_row(lines("repeat 2", "clock 0 1", "end")), 1)
        self.assertEqual(self.failed_row(lines("repeat 1", "clock 0 1", "end", "clock 0 1")), 3)
        self.assertEqual(self.output(lines("repeat 2", "clock 0 1", "clock 0 0", "end", "count")), ["0"])


class Steps(Case):
    def test_rows_in_a_repeat(self):
        # A step for the repeat itself, and for each time one for its rows as a whole, and one for each of these.
        self.assertEqual(len(self.output(lines("repeat 99", "count", "count", "end", "count", "count"))), 200)
        self.too_long(lines("repeat 99", "count", "count", "end", "count", "count", "count"))

    def test_an_empty_repeat(self):
        text = ["repeat 99", "end"] * 3
        self.assertEqual(self.output(lines(*text)), [])
        self.too_long(lines(*text, "count"))
        self.assertEqual(self.output(lines(*["repeat 0", "end"] * 30)), [])

    def test_rows_behind_a_repeat(self):
        rows = ["repeat 99", "end", "repeat 99", "end", "repeat 49", "end"]
        self.assertEqual(len(self.output(lines(*rows, *["count"] * 50))), 50)
        self.too_long(lines(*rows, *["count"] * 51))

    def test_a_when_is_one_step_whether_it_holds_or_not(self):
        rows = ["repeat 99", "end", "repeat 99", "end", "repeat 89", "end"]
        self.assertEqual(len(self.output(lines(*rows, *["when 0 0", "count", "end"] * 5))), 5)
        self.too_long(lines(*rows, *["when 0 0", "count", "end"] * 5, "count"))
        self.assertEqual(self.output(lines(*rows, *["when 0 1", "count", "end"] * 10)), [])
        self.too_long(lines(*rows, *["when 0 1", "count", "end"] * 10, "count"))

    def test_repeats_in_repeats(self):
        # Each time of the outer one is a step, the inner repeat another one, and each of its times one more.
        self.assertEqual(len(self.output(lines("repeat 13", "repeat 10", "count", "end", "end", "count"))), 131)
        self.assertEqual(self.output(lines("repeat 23", "repeat 11", "end", "end")), [])
        self.too_long(lines("repeat 23", "repeat 12", "end", "end"))
        self.too_long(lines("repeat 99", "repeat 99", "repeat 99", "repeat 99", "end", "end", "end", "end"))

    def test_ends_are_no_steps(self):
        rows = ["repeat 99", "end", "repeat 99", "end"]
        self.assertEqual(self.output(lines(*rows, *["when 0 0"] * 4, *["end"] * 4, "repeat 95", "end")), [])
        self.too_long(lines(*rows, *["when 0 0"] * 4, *["end"] * 4, "repeat 96", "end"))

    def test_it_is_too_long_before_the_301st_step_fails(self):
        rows = ["repeat 99", "end"] * 3
        self.too_long(lines(*rows, "give 9"))
        self.too_long(lines(*rows, "when 9 9", "end"))
        rows[4] = "repeat 98"
        self.assertEqual(self.failed_row(lines(*rows, "give 9")), 6)
        self.assertEqual(self.failed_row(lines(*rows, "when 9 9", "end")), 6)


class AgainstPlainExecution(unittest.TestCase):
    def check(self, setup, text):
        row = plain_script_error(text)
        if row is not None:
            with self.assertRaises(ScriptError) as caught:
                run_script(setup, text)
            self.assertEqual(caught.exception.row, row, text)
            return "ScriptError"
        plainly = PlainExecution(setup, text)
        try:
            house, output = run_script(setup, text)
            found = "done", None
            self.assertEqual(output, plainly.output, text)
            self.assertEqual(house.history, plainly.history, text)
            self.assertEqual(house.numbers_given, plainly.numbers)
            self.assertEqual(house.standing_now, plainly.standing)
        except ExecutionFailed as error:
            found = "ExecutionFailed", error.row
        except TooLong:
            found = "TooLong", None
        self.assertEqual(found, plainly.told, text)
        return found[0]

    def test_scripts_of_all_kinds(self):
        chance = random.Random(30)
        found = {}
        for turn in range(6000):
            words = chance.sample(ALL_WORDS, 2)
            setup = two_makers(*words) if turn % 2 else one_maker(words[0])
            told = self.check(setup, self.made(chance, len(setup)))
            found[told] = found.get(told, 0) + 1
        self.assertEqual(set(found), {"ScriptError", "ExecutionFailed", "TooLong", "done"})
        self.assertGreater(min(found.values()), 200, found)

    def made(self, chance, makers):
        """Return a script that is mostly good."""
        rows, depth = [], 0
        most_depth = chance.choice((1, 2, 4, 4, 4, 4, 5))
        times = chance.choice(((0, 1, 2, 3), (2, 3, 5), (5, 12, 99)))
        for _ in range(chance.randrange(1, 40)):
            maker, kind = chance.randrange(makers), chance.random()
            if kind < 0.2 and depth < most_depth:
                rows.append(chance.choice((f"repeat {chance.choice(times)}", f"when {maker} {chance.randrange(3)}")))
                depth += 1
            elif kind < 0.35 and depth:
                rows.append("end")
                depth -= 1
            elif 0.35 <= kind < 0.36:
                wrong = ("end", "give", "count 0", "", "give 05", "clock 0 100", "give 7", "clock 5 5")
                rows.append(chance.choice(wrong))
            elif 0.36 <= kind < 0.39 and depth < 4:
                # A jump that can be.
                reading = chance.randrange(3)
                rows += [f"when {maker} {reading}", f"clock {maker} {(reading + 1) % 3}", "end"]
            elif 0.39 <= kind < 0.4:
                rows.append(f"clock {maker} {chance.randrange(3)}")
            else:
                rows.append(chance.choice((f"give {maker}", f"give {maker}", f"restart {maker}", "count")))
        return "\n".join(rows + ["end"] * (depth if chance.random() < 0.95 else chance.randrange(6)))


class Package(unittest.TestCase):
    def test_what_is_returned_is_the_callers(self):
        setup, like = one_maker(PLAIN), one_maker(PLAIN)
        text = lines("give 0", "count")
        house, output = run_script(setup, text)
        output.append("changed")
        house.give(0)
        house, output = run_script(setup, text)
        self.assertEqual([output, house.history], [["0.3.0", "1"], [("give", 0)]])
        self.assertEqual(setup, like)

    def test_repeated_calls_return_equal_results(self):
        text = lines("repeat 3", "give 0", "clock 0 1", "give 0", "clock 0 0", "end", "count")
        found = [run_script(one_maker(PLAIN), text) for _ in range(3)]
        self.assertEqual([output for _, output in found], [found[0][1]] * 3)
        self.assertEqual([house.history for house, _ in found], [found[0][0].history] * 3)
