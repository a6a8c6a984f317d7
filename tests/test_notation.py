import copy
import random
import unittest
from itertools import product

from manymakers import notation
from manymakers.errors import InvalidHistory, InvalidLine, InvalidNumber, InvalidStanding
from manymakers.events import begin
from manymakers.notation import history_text, number_text, read_history, standing_text
from manymakers.ways import standings
from tests import plain
from tests.makers import NO_NUMBERS, one_maker, two_makers

PLAIN = ("trust", "wrap", "forget")
CAREFUL = ("refuse", "refuse", "wait")
SMALL = {"top": 1, "limit": 0, "back": 1, "ahead": 1}
SHAPES = {"clock": 3, "restart": 2, "give": 2}
# What is no word of one digit.
NO_DIGITS = (
    "", "00", "01", "10", "99", "-1", "+1", "-", "x", "1x", "a", "1.0", "one", "None", "True", "\t", "0\t", "\r", "0\r",
    "\u00b2", "\u0663", "\uff11", "_", "1_", "0x1", "0,",
)
NO_FIRST_WORDS = (
    "", "Give", "GIVE", "gives", "giv", "0", "count", "end", "repeat", "when", "jump", "\tgive", "give\t", "give,",
    "none",
)


def plain_wrong_word(row):
    """Return the number of the word that InvalidLine has for a row, None for a good row."""
    words = row.split(" ")
    for at in range(len(words)):
        many = SHAPES.get(words[0], 0)
        is_good = at < many and (at == 0 or words[at] in tuple("0123456789"))
        if not is_good:
            return at
    return None if len(words) == SHAPES[words[0]] else len(words)


class Interface(unittest.TestCase):
    def test_functions_are_defined_where_they_are_listed(self):
        for function in (history_text, number_text, standing_text, read_history):
            self.assertEqual(function.__module__, notation.__name__)

    def test_parameters_have_the_names_of_the_document(self):
        setup = one_maker(PLAIN)
        self.assertEqual(history_text(events=[("give", 0)]), "give 0")
        self.assertEqual(read_history(setup=setup, text="give 0"), [("give", 0)])
        self.assertEqual(number_text(number=(1, 2, 3)), "1.2.3")
        self.assertEqual(standing_text(setup=setup, standing=begin(setup)), "0 - 0 -")


class Histories(unittest.TestCase):
    def test_a_row_for_each_event(self):
        self.assertEqual(history_text([("clock", 0, 2)]), "clock 0 2")
        self.assertEqual(history_text([("clock", 1, 0)]), "clock 1 0")
        self.assertEqual(history_text([("restart", 1)]), "restart 1")
        self.assertEqual(history_text([("give", 0)]), "give 0")
        self.assertEqual(history_text([("give", 1), ("give", 0), ("restart", 0)]), "give 1\ngive 0\nrestart 0")

    def test_no_events(self):
        self.assertEqual(history_text([]), "")
        self.assertEqual(read_history(one_maker(PLAIN), ""), [])
        self.assertEqual(read_history(two_makers(PLAIN, CAREFUL), ""), [])

    def test_there_and_back(self):
        for setup, longest in ((one_maker(CAREFUL), 4), (two_makers(PLAIN, CAREFUL, **SMALL), 3)):
            texts = set()
            for history, _, _ in plain.written_out(setup, longest):
                text = history_text(history)
                self.assertEqual(read_history(setup, text), history)
                texts.add(text)
            self.assertEqual(len(texts), len(plain.written_out(setup, longest)))

    def test_events_that_are_read_are_tuples_of_a_word_and_integers(self):
        found = read_history(one_maker(PLAIN), "clock 0 1\ngive 0")
        self.assertEqual([[type(part) for part in event] for event in found], [[str, int, int], [str, int]])
        self.assertEqual([type(event) for event in found], [tuple, tuple])


class Lines(unittest.TestCase):
    def wrong(self, text, setup=None):
        with self.assertRaises(InvalidLine) as caught:
            read_history(setup or one_maker(PLAIN), text)
        return caught.exception.row, caught.exception.word

    def check(self, row, word):
        """Check that a row is wrong at a word, wherever it stands."""
        with self.subTest(row=row):
            # The empty text has no rows.
            if row:
                self.assertEqual(self.wrong(row), (0, word))
            self.assertEqual(self.wrong("give 0\n" + row), (1, word))
            self.assertEqual(self.wrong("give 0\nclock 0 1\nrestart 0\n" + row + "\ngive 0\nx"), (3, word))
            # What stands there is looked at before it is asked whether it can be.
            self.assertEqual(self.wrong("give 9\nclock 0 0\n" + row), (2, word))

    def test_another_first_word(self):
        for word in NO_FIRST_WORDS:
            for rest in ("", " 0", " 0 1", " x"):
                self.check(word + rest, 0)

    def test_a_number_that_is_not_of_one_digit(self):
        for word in NO_DIGITS:
            self.check("give " + word, 1)
            self.check("restart " + word, 1)
            self.check(f"clock {word} 1", 1)
            self.check(f"clock 0 {word}", 2)
            self.check(f"clock {word} {word}", 1)
            self.check(f"clock {word}", 1)
            self.check(f"give {word} 0", 1)
            self.check(f"clock 0 {word} 1 1", 2)

    def test_superfluous_words(self):
        for word in NO_DIGITS + ("0", "1", "give", "clock"):
            self.check("give 0 " + word, 2)
            self.check("restart 0 " + word, 2)
            self.check("clock 0 1 " + word, 3)
            self.check(f"clock 0 1 {word} {word}", 3)

    def test_missing_words(self):
        self.check("give", 1)
        self.check("restart", 1)
        self.check("clock", 1)
        self.check("clock 0", 2)
        self.check("clock 9", 2)

    def test_blanks(self):
        self.check("give  0", 1)
        self.check(" give 0", 0)
        self.check("  give 0", 0)
        self.check("give 0 ", 2)
        self.check("give 0  ", 2)
        self.check("give ", 1)
        self.check("clock 0  1", 2)
        self.check("clock  0 1", 1)
        self.check("clock 0 1 ", 3)
        self.check("clock 0 ", 2)
        self.check(" ", 0)

    def test_empty_rows(self):
        self.check("", 0)
        self.assertEqual(self.wrong("\n"), (0, 0))
        self.assertEqual(self.wrong("give 0\n"), (1, 0))
        self.assertEqual(self.wrong("give 0\n\n"), (1, 0))
        self.assertEqual(self.wrong("\ngive 0"), (0, 0))
        self.assertEqual(self.wrong("give 0\n\ngive 0"), (1, 0))
        self.assertEqual(self.wrong("give 0\nclock 0 1\n"), (2, 0))

    def test_rows_are_parted_by_line_feeds_only(self):
        for sign in ("\r", "\r\n", "\x0b", "\x0c", "\x1c", "\x85", "\u2028", "\u2029", "\t"):
            self.assertEqual(self.wrong(f"give 0{sign}give 0"), (0, 1))
        self.assertEqual(self.wrong("give 0\r\n"), (0, 1))

    def test_the_first_of_several(self):
        self.assertEqual(self.wrong("give 0\ngive x x\njump"), (1, 1))
        self.assertEqual(self.wrong("give 0\njump x\ngive"), (1, 0))
        self.assertEqual(self.wrong("clock 0 x\nclock x"), (0, 2))

    def test_many_rows_against_plain_words(self):
        chance = random.Random(4)
        pieces = ["clock", "restart", "give", "0", "1", "2", "9", "10", "", "x", "-1"]
        seen = set()
        for _ in range(4000):
            row = " ".join(chance.choice(pieces) for _ in range(chance.randrange(1, 6)))
            wanted = plain_wrong_word(row)
            seen.add(wanted)
            if wanted is not None:
                self.assertEqual(self.wrong("give 0\n" + row), (1, wanted), row)
        self.assertEqual(seen, {None, 0, 1, 2, 3})


class InvalidHistories(unittest.TestCase):
    def wrong_index(self, setup, text):
        with self.assertRaises(InvalidHistory) as caught:
            read_history(setup, text)
        return caught.exception.index

    def test_the_index_of_the_first_event_that_cannot_be(self):
        setup = one_maker(PLAIN, back=1, ahead=1)
        for text, index in (
            ("give 1", 0), ("clock 0 2", 0), ("clock 0 0", 0), ("clock 0 9", 0), ("restart 9", 0), ("clock 5 5", 0),
            ("give 0\nclock 0 1\nclock 0 1", 2), ("give 0\ngive 1\nclock 0 0", 1),
            ("clock 0 1\nclock 0 2\nclock 0 0", 2),
        ):
            with self.subTest(text=text):
                self.assertEqual(self.wrong_index(setup, text), index)
        self.assertEqual(read_history(two_makers(PLAIN, PLAIN), "give 1"), [("give", 1)])

    def test_behind_all_lines(self):
        with self.assertRaises(InvalidLine):
            read_history(one_maker(PLAIN), "give 7\nclock 0 0\ngive")


class Numbers(unittest.TestCase):
    def test_three_parts(self):
        for number in list(product((0, 1, 2), repeat=3)) + [(10, 0, 7), (10 ** 15, 123, 10 ** 20), (0, 10, 100)]:
            self.assertEqual(number_text(number), f"{number[0]}.{number[1]}.{number[2]}")

    def test_none(self):
        self.assertEqual(number_text(None), "none")

    def test_others(self):
        for wrong in NO_NUMBERS:
            if wrong is not None:
                with self.subTest(wrong=wrong), self.assertRaises(InvalidNumber):
                    number_text(wrong)
        for wrong in ("none", "", False):
            with self.assertRaises(InvalidNumber):
                number_text(wrong)


class Standings(unittest.TestCase):
    def test_one_maker(self):
        setup = one_maker(CAREFUL)
        self.assertEqual(standing_text(setup, ((0, -1, 0, -1),)), "0 - 0 -")
        self.assertEqual(standing_text(setup, ((2, 0, 1, 1),)), "2 0 1 1")
        self.assertEqual(standing_text(setup, ((2, -1, 0, 0),)), "2 - 0 0")
        self.assertEqual(standing_text(one_maker(PLAIN), ((1, 2, 1, -1),)), "1 2 1 -")

    def test_two_makers(self):
        setup = two_makers(CAREFUL, PLAIN)
        self.assertEqual(standing_text(setup, begin(setup)), "0 - 0 -\n0 - 0 -")
        self.assertEqual(standing_text(setup, ((1, 0, 0, 2), (2, 1, 1, -1))), "1 0 0 2\n2 1 1 -")

    def test_all_standings_that_can_come_about(self):
        for setup in (one_maker(CAREFUL), two_makers(PLAIN, CAREFUL, **SMALL)):
            texts = {}
            for standing in standings(setup):
                text = standing_text(setup, standing)
                rows = [[-1 if word == "-" else int(word) for word in row.split(" ")] for row in text.split("\n")]
                self.assertEqual(tuple(tuple(row) for row in rows), standing)
                texts[text] = standing
            self.assertEqual(len(texts), len(standings(setup)))

    def test_what_is_no_standing(self):
        good = (0, -1, 0, -1)
        for standing in (
            (), (good, good), [good], good, None, 0, "", (None,), (list(good),), (good[:3],), (good + (0,),),
            ((-1, -1, 0, -1),), ((3, -1, 0, -1),), ((0, -2, 0, -1),), ((0, 3, 0, -1),), ((0, -1, 1, -1),),
            ((0, 0, 2, -1),), ((0, 0, -1, -1),), ((0, 0, 0, 0),), ((True, 0, 0, -1),), ((0, 0, 0, None),),
        ):
            with self.subTest(standing=standing), self.assertRaises(InvalidStanding):
                standing_text(one_maker(PLAIN), standing)
        for standing in ((good,), (good, good, good), (good, (0, 0, 0, 0)), (good, None)):
            with self.subTest(standing=standing), self.assertRaises(InvalidStanding):
                standing_text(two_makers(CAREFUL, PLAIN), standing)


class Package(unittest.TestCase):
    def test_what_is_handed_in_is_the_same_behind_the_call(self):
        events = [("clock", 0, 2), ("give", 0)]
        before = copy.deepcopy(events)
        text = history_text(events)
        self.assertEqual(events, before)
        found = read_history(one_maker(PLAIN), text)
        found.append("changed")
        self.assertEqual(read_history(one_maker(PLAIN), text), before)
        wrong = [0, 0, 0]
        with self.assertRaises(InvalidNumber):
            number_text(wrong)
        self.assertEqual(wrong, [0, 0, 0])

    def test_an_empty_list_that_is_returned_is_the_callers(self):
        read_history(one_maker(PLAIN), "").append("changed")
        self.assertEqual(read_history(one_maker(PLAIN), ""), [])
