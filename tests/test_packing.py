import unittest
from itertools import product

from manymakers import packing
from manymakers.errors import InvalidNumber, InvalidValue, InvalidWidth
from manymakers.packing import packed, unpacked
from tests.makers import NO_NUMBERS

FAR = 10 ** 15
NO_INTEGERS = (True, False, None, "1", "", 1.0, (1,), [1], b"1")
NO_WIDTHS = (-1, 21, -20, 64, 10 ** 20) + NO_INTEGERS


class Interface(unittest.TestCase):
    def test_functions_are_defined_where_they_are_listed(self):
        for function in (packed, unpacked):
            self.assertEqual(function.__module__, packing.__name__)

    def test_parameters_have_the_names_of_the_document(self):
        self.assertEqual(packed(number=(1, 2, 3), mark_width=2, counter_width=3), 32 + 16 + 3)
        self.assertEqual(unpacked(value=51, mark_width=2, counter_width=3), (1, 2, 3))


class ThereAndBack(unittest.TestCase):
    def test_all_widths_with_parts_at_the_edges_of_their_room(self):
        for mark_width, counter_width in product(range(21), repeat=2):
            marks = sorted({0, 2 ** mark_width // 2, 2 ** mark_width - 1})
            counters = sorted({0, 2 ** counter_width // 3, 2 ** counter_width - 1})
            for number in product((0, 1, 2, 999, FAR - 1, FAR), marks, counters):
                reading, mark, counter = number
                value = packed(number, mark_width, counter_width)
                plainly = reading * 2 ** (mark_width + counter_width) + mark * 2 ** counter_width + counter
                self.assertEqual(value, plainly)
                self.assertEqual(unpacked(value, mark_width, counter_width), number)

    def test_each_value_of_small_widths(self):
        for mark_width, counter_width in product(range(4), repeat=2):
            numbers = [unpacked(value, mark_width, counter_width) for value in range(200)]
            self.assertEqual(numbers, sorted(set(numbers)))
            self.assertEqual([packed(number, mark_width, counter_width) for number in numbers], list(range(200)))

    def test_kinds_of_what_is_returned(self):
        self.assertIs(type(packed((0, 0, 0), 0, 0)), int)
        found = unpacked(0, 0, 0)
        self.assertEqual((type(found), [type(part) for part in found]), (tuple, [int] * 3))

    def test_no_width_leaves_room_for_nothing_but_0(self):
        self.assertEqual(packed((7, 0, 0), 0, 0), 7)
        self.assertEqual(unpacked(7, 0, 0), (7, 0, 0))
        self.assertEqual(unpacked(7, 0, 2), (1, 0, 3))
        self.assertEqual(unpacked(7, 2, 0), (1, 3, 0))


class Numbers(unittest.TestCase):
    def test_a_mark_or_a_counter_that_has_no_room(self):
        for mark_width, counter_width in product((0, 1, 2, 7, 19, 20), repeat=2):
            mark, counter = 2 ** mark_width, 2 ** counter_width
            packed((0, mark - 1, counter - 1), mark_width, counter_width)
            for number in (
                (0, mark, 0), (0, 0, counter), (0, mark + 1, counter - 1), (0, mark - 1, 10 ** 20), (0, 10 ** 20, 0),
            ):
                with self.subTest(number=number), self.assertRaises(InvalidNumber):
                    packed(number, mark_width, counter_width)

    def test_a_reading_above_the_greatest_one(self):
        for widths in product((0, 3, 20), repeat=2):
            self.assertEqual(packed((FAR, 0, 0), *widths), FAR * 2 ** sum(widths))
            for reading in (FAR + 1, FAR * 2, 10 ** 30):
                with self.subTest(reading=reading), self.assertRaises(InvalidNumber):
                    packed((reading, 0, 0), *widths)

    def test_what_is_no_number(self):
        for wrong in NO_NUMBERS:
            for widths in ((0, 0), (4, 3), (20, 20)):
                with self.subTest(wrong=wrong), self.assertRaises(InvalidNumber):
                    packed(wrong, *widths)


class Values(unittest.TestCase):
    def test_the_greatest_value(self):
        for mark_width, counter_width in product((0, 1, 5, 20), repeat=2):
            room = 2 ** (mark_width + counter_width)
            greatest = (FAR + 1) * room - 1
            number = (FAR, 2 ** mark_width - 1, 2 ** counter_width - 1)
            self.assertEqual(unpacked(greatest, mark_width, counter_width), number)
            self.assertEqual(unpacked(FAR * room, mark_width, counter_width), (FAR, 0, 0))
            for value in (greatest + 1, greatest + room, greatest * 4, 10 ** 40):
                with self.subTest(value=value), self.assertRaises(InvalidValue):
                    unpacked(value, mark_width, counter_width)

    def test_below_0_and_what_is_no_integer(self):
        for value in (-1, -2, -FAR, -10 ** 40) + NO_INTEGERS:
            for widths in ((0, 0), (4, 3), (20, 20)):
                with self.subTest(value=value), self.assertRaises(InvalidValue):
                    unpacked(value, *widths)


class Widths(unittest.TestCase):
    def test_either_width_ahead_of_all_else(self):
        for wrong in NO_WIDTHS:
            for widths in ((wrong, 0), (0, wrong), (20, wrong), (wrong, 20), (wrong, wrong)):
                for number in ((0, 0, 0), (FAR + 1, 0, 0), (0, 10 ** 20, 0), None, (1, 2)):
                    with self.subTest(widths=widths, number=number), self.assertRaises(InvalidWidth):
                        packed(number, *widths)
                for value in (0, -1, None, True, 10 ** 40):
                    with self.subTest(widths=widths, value=value), self.assertRaises(InvalidWidth):
                        unpacked(value, *widths)

    def test_widths_at_their_edges(self):
        for widths in product((0, 20), repeat=2):
            self.assertEqual(unpacked(packed((1, 0, 0), *widths), *widths), (1, 0, 0))
