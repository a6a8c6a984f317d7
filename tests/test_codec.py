import copy
import unittest
from itertools import product

from manymakers import codec
from manymakers.codec import decode_setup, encode_setup
from manymakers.errors import DecodeError
from manymakers.setups import Plan, Setup
from tests.makers import ALL_WORDS, BACK, FULL, RESTART, one_maker, two_makers

PLAIN = ("trust", "wrap", "forget")
BOUNDS = list(product((1, 2), (0, 1), (0, 1, 2), (1, 2)))
NO_ITEMS = (
    True, False, None, "", "0", "1", "127", 1.0, 127.0, (1,), [1], (), b"1", -1, 193, 255, 256, 10 ** 20, -10 ** 20,
)


def plain_checksum(items):
    checksum = 5
    for item in items:
        checksum = (31 * checksum + item) % 193
    return checksum


def plain_code(words, marks, bounds):
    """Return what encode_setup returns for a set-up with such plans, marks and bounds."""
    items = [127, len(words)]
    for back, full, restart in words:
        items += [BACK.index(back), FULL.index(full), RESTART.index(restart)]
    items += [*marks, *bounds]
    return items + [plain_checksum(items)]


def plain_offset(values):
    """Return the offset of the first item that cannot stand where it does, None if each of them can."""
    allowed = [[127], [1, 2]]
    at = 0
    while at < len(allowed):
        if at == len(values) or type(values[at]) is not int or values[at] not in allowed[at]:
            return at
        if at == 1:
            makers = values[1]
            allowed += [[0, 1, 2]] * 3 * makers + [[0, 1, 2, 3]] * makers + [[1, 2], [0, 1], [0, 1, 2], [1, 2]]
        if at == len(allowed) - 1 and len(allowed) in (10, 14):
            allowed.append([plain_checksum(values[:len(allowed)])])
        at += 1
    return at if len(values) > at else None


class Interface(unittest.TestCase):
    def test_functions_are_defined_where_they_are_listed(self):
        for function in (encode_setup, decode_setup):
            self.assertEqual(function.__module__, codec.__name__)

    def test_parameters_have_the_names_of_the_document(self):
        setup = one_maker(PLAIN)
        self.assertEqual(decode_setup(values=encode_setup(setup=setup)), setup)


class ThereAndBack(unittest.TestCase):
    def check(self, words, marks, bounds):
        setup = Setup(tuple(Plan(*row) for row in words), marks, *bounds)
        found = encode_setup(setup)
        self.assertEqual(found, plain_code(words, marks, bounds))
        self.assertTrue(all(type(item) is int and 0 <= item <= 255 for item in found))
        self.assertEqual(decode_setup(found), setup)
        return tuple(found)

    def test_all_set_ups_of_one_maker(self):
        codes = set()
        for words, mark, bounds in product(ALL_WORDS, range(4), BOUNDS):
            codes.add(self.check((words,), (mark,), bounds))
        self.assertEqual(len(codes), 27 * 4 * 24)

    def test_many_set_ups_of_two_makers(self):
        for one, other in product(ALL_WORDS[::2], ALL_WORDS[::3]):
            for marks, bounds in zip(product(range(4), repeat=2), BOUNDS):
                self.check((one, other), marks, bounds)

    def test_what_is_decoded_has_its_parts(self):
        words = (("hold", "borrow", "saved"), ("refuse", "refuse", "wait"))
        setup = decode_setup(plain_code(words, (3, 1), (2, 1, 0, 2)))
        self.assertEqual([(plan.on_back, plan.on_full, plan.on_restart) for plan in setup.plans], list(words))
        self.assertEqual((setup.marks, setup.top, setup.limit, setup.back, setup.ahead), ((3, 1), 2, 1, 0, 2))
        self.assertEqual((type(setup), type(setup.plans), type(setup.marks), len(setup)), (Setup, tuple, tuple, 2))


class Errors(unittest.TestCase):
    GOOD = (
        plain_code((PLAIN,), (1,), (2, 1, 2, 2)), plain_code((("refuse", "borrow", "wait"),), (3,), (1, 0, 0, 1)),
        plain_code((PLAIN, ("hold", "refuse", "saved")), (0, 2), (2, 0, 1, 1)),
    )

    def offset(self, values):
        with self.assertRaises(DecodeError) as caught:
            decode_setup(values)
        return caught.exception.offset

    def test_the_empty_list(self):
        self.assertEqual(self.offset([]), 0)

    def test_an_item_that_cannot_stand_there_at_every_place(self):
        for good in self.GOOD:
            for at in range(len(good)):
                for item in NO_ITEMS:
                    if type(item) is int and item == good[at]:
                        continue
                    values = [*good[:at], item, *good[at + 1:]]
                    with self.subTest(at=at, item=item):
                        self.assertEqual(self.offset(values), at)
                        # What stands behind it does not matter.
                        self.assertEqual(self.offset(values[:at + 1]), at)
                        self.assertEqual(self.offset(values[:at + 1] + [None] * 20), at)

    def test_each_integer_at_every_place(self):
        for good in self.GOOD:
            for at, item in product(range(len(good)), range(-2, 260)):
                values = [*good[:at], item, *good[at + 1:]]
                offset = plain_offset(values)
                if item == good[at]:
                    self.assertIsNone(offset)
                    decode_setup(values)
                else:
                    # An item in its range makes the checksum wrong, or the number of makers.
                    self.assertEqual(self.offset(values), offset, values)

    def test_the_edges_of_the_ranges(self):
        for good, ranges in (
            (self.GOOD[0], [(127, 127), (1, 2)] + [(0, 2)] * 3 + [(0, 3), (1, 2), (0, 1), (0, 2), (1, 2)]),
            (self.GOOD[2], [(127, 127), (1, 2)] + [(0, 2)] * 6 + [(0, 3)] * 2 + [(1, 2), (0, 1), (0, 2), (1, 2)]),
        ):
            for at, (low, high) in enumerate(ranges):
                for item in (low - 1, high + 1):
                    self.assertEqual(self.offset([*good[:at], item, *good[at + 1:]]), at)
                if at != 1:
                    for item in range(low, high + 1):
                        items = [*good[:at], item, *good[at + 1:-1]]
                        setup = decode_setup(items + [plain_checksum(items)])
                        self.assertEqual(encode_setup(setup), items + [plain_checksum(items)])

    def test_items_that_are_missing(self):
        for good in self.GOOD:
            for many in range(len(good)):
                with self.subTest(many=many):
                    self.assertEqual(self.offset(good[:many]), many)

    def test_a_wrong_checksum(self):
        for good in self.GOOD:
            right = good[-1]
            for item in (right + 1, right - 1, right + 193, right - 193, 0, 256, True, None, str(right)):
                if item != good[-1]:
                    self.assertEqual(self.offset(good[:-1] + [item]), len(good) - 1)

    def test_true_is_not_a_checksum_of_1(self):
        for words, mark, bounds in product(ALL_WORDS, range(4), BOUNDS):
            code = plain_code((words,), (mark,), bounds)
            if code[-1] in (0, 1):
                decode_setup(code)
                self.assertEqual(self.offset(code[:-1] + [bool(code[-1])]), 10)
                return
        self.fail("no such set-up")

    def test_an_item_behind_the_checksum(self):
        for good in self.GOOD:
            for items in ([0], [good[-1]], [None], [True, 0], list(good)):
                self.assertEqual(self.offset(good + items), len(good))

    def test_of_several_the_first(self):
        self.assertEqual(self.offset([127, 3]), 1)
        self.assertEqual(self.offset([126, 3, 9]), 0)
        self.assertEqual(self.offset(self.GOOD[0][:4] + [3, 4, 0, 2]), 4)


class Package(unittest.TestCase):
    def test_what_is_handed_in_is_the_same_behind_the_call(self):
        setup, like = two_makers(PLAIN, PLAIN), two_makers(PLAIN, PLAIN)
        values = encode_setup(setup)
        before = copy.deepcopy(values)
        self.assertEqual(decode_setup(values), like)
        self.assertEqual((values, setup), (before, like))
        for wrong in (values[:-1], values + [1], [127, [1]]):
            before = copy.deepcopy(wrong)
            with self.assertRaises(DecodeError):
                decode_setup(wrong)
            self.assertEqual(wrong, before)

    def test_returned_lists_are_the_callers(self):
        setup = one_maker(PLAIN)
        before = encode_setup(setup)
        found = encode_setup(setup)
        found[0] = 0
        found.clear()
        self.assertEqual(encode_setup(setup), before)

    def test_a_list_that_is_handed_in_is_not_kept(self):
        values = encode_setup(one_maker(PLAIN))
        setup = decode_setup(values)
        values[5] = 0
        values.clear()
        self.assertEqual(setup, one_maker(PLAIN))
