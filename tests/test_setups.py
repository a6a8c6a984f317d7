import unittest

from manymakers import setups
from manymakers.errors import InvalidPlan, InvalidSetup
from manymakers.setups import Plan, Setup
from tests.makers import ALL_WORDS

PLAIN = ("trust", "wrap", "forget")
NO_WORDS = ("", "Trust", "trust ", "none", "forgets", 0, 1, -1, None, True, ("trust",), ["trust"], b"trust")


class EqualToAll:
    """Something that says it is equal to whatever it is asked about, and has a plan's words."""

    on_back, on_full, on_restart = PLAIN

    def __eq__(self, other):
        return True


class Interface(unittest.TestCase):
    def test_classes_and_methods_are_defined_where_they_are_listed(self):
        self.assertEqual([Plan.__module__, Setup.__module__], [setups.__name__] * 2)
        for name in ("on_back", "on_full", "on_restart"):
            self.assertIsInstance(vars(Plan)[name], property)
        for name in ("plans", "marks", "top", "limit", "back", "ahead"):
            self.assertIsInstance(vars(Setup)[name], property)
        for name in ("__init__", "__eq__"):
            self.assertIn(name, vars(Plan))
            self.assertIn(name, vars(Setup))
        self.assertIn("__len__", vars(Setup))


class Plans(unittest.TestCase):
    def wrong_part(self, *words):
        with self.assertRaises(InvalidPlan) as caught:
            Plan(*words)
        return caught.exception.part

    def test_each_of_the_27_plans_can_be_made_and_has_its_words(self):
        self.assertEqual(len(set(ALL_WORDS)), 27)
        for words in ALL_WORDS:
            with self.subTest(words):
                plan = Plan(*words)
                self.assertEqual((plan.on_back, plan.on_full, plan.on_restart), words)

    def test_parameters_have_the_names_of_the_document(self):
        plan = Plan(on_restart="wait", on_full="borrow", on_back="hold")
        self.assertEqual((plan.on_back, plan.on_full, plan.on_restart), ("hold", "borrow", "wait"))

    def test_a_wrong_word_is_told_by_the_name_of_its_parameter(self):
        for part, place, others in (
            ("on_back", 0, ("wrap", "borrow", "forget", "saved", "wait")),
            ("on_full", 1, ("trust", "hold", "forget", "saved", "wait")),
            ("on_restart", 2, ("trust", "hold", "refuse", "wrap", "borrow")),
        ):
            for wrong in others + tuple(word for word in NO_WORDS if word != "trust"):
                for words in (PLAIN, ("refuse", "refuse", "wait")):
                    with self.subTest(part=part, wrong=wrong):
                        given = list(words)
                        given[place] = wrong
                        self.assertEqual(self.wrong_part(*given), part)

    def test_what_says_that_it_is_equal_to_a_word_is_none(self):
        self.assertEqual(self.wrong_part(EqualToAll(), "wrap", "wait"), "on_back")

    def test_of_several_wrong_words_the_first_is_told(self):
        self.assertEqual(self.wrong_part("wrap", "trust", "hold"), "on_back")
        self.assertEqual(self.wrong_part("no", "no", "wait"), "on_back")
        self.assertEqual(self.wrong_part(None, "wrap", 3), "on_back")
        self.assertEqual(self.wrong_part("trust", "", None), "on_full")

    def test_plans_are_equal_if_all_words_are(self):
        for one in ALL_WORDS:
            for other in ALL_WORDS:
                with self.subTest(one=one, other=other):
                    self.assertIs(Plan(*one) == Plan(*other), one == other)
                    self.assertIs(Plan(*one) != Plan(*other), one != other)

    def test_a_plan_is_equal_to_nothing_else(self):
        plan = Plan(*PLAIN)
        whole = Setup((plan,), (0,), 1, 0, 0, 1)
        for other in (PLAIN, list(PLAIN), "trust", None, 0, True, whole, (plan,), EqualToAll()):
            with self.subTest(other=other):
                self.assertIs(plan == other, False)

    def test_words_cannot_be_put_in_from_outside(self):
        with self.assertRaises(AttributeError):
            Plan(*PLAIN).on_back = "hold"


class Setups(unittest.TestCase):
    def setUp(self):
        self.plan = Plan(*PLAIN)
        self.other = Plan("hold", "borrow", "saved")
        self.good = {
            "plans": (self.plan, self.other), "marks": (0, 3), "top": 2, "limit": 1, "back": 0, "ahead": 1,
        }

    def made(self, **changes):
        return Setup(**{**self.good, **changes})

    def wrong_part(self, **changes):
        with self.assertRaises(InvalidSetup) as caught:
            self.made(**changes)
        return caught.exception.part

    def test_properties_are_called_like_the_parameters(self):
        setup = Setup((self.plan, self.other), (0, 3), 2, 1, 0, 1)
        found = (setup.plans, setup.marks, setup.top, setup.limit, setup.back, setup.ahead)
        self.assertEqual(found, ((self.plan, self.other), (0, 3), 2, 1, 0, 1))
        self.assertEqual(self.made(), setup)

    def test_the_length_is_the_number_of_makers(self):
        self.assertEqual(len(self.made()), 2)
        self.assertEqual(len(self.made(plans=(self.plan,), marks=(2,))), 1)

    def test_all_that_is_within_the_bounds_is_accepted(self):
        for part, values in (
            ("top", (1, 2)), ("limit", (0, 1)), ("back", (0, 1, 2)), ("ahead", (1, 2)),
            ("marks", ((0, 0), (1, 2), (3, 3), (3, 0))),
            ("plans", ((self.plan, self.plan), (self.other, self.plan))),
        ):
            for value in values:
                with self.subTest(part=part, value=value):
                    self.assertEqual(getattr(self.made(**{part: value}), part), value)

    def test_a_number_that_is_none_or_beyond_its_bounds(self):
        for part, beyond in (("top", (0, 3)), ("limit", (-1, 2)), ("back", (-1, 3)), ("ahead", (0, 3))):
            for value in beyond + (True, False, None, "1", (1,), [1], 1.0, -100, 10 ** 20):
                with self.subTest(part=part, value=value):
                    self.assertEqual(self.wrong_part(**{part: value}), part)

    def test_plans_that_are_no_tuple_of_one_or_two(self):
        plan = self.plan
        for plans in (
            (), (plan,) * 3, (plan,) * 4, (PLAIN,), (plan, PLAIN), (PLAIN, plan), (plan, None), ("trust",), (None,),
            [plan], [plan, plan], plan, {plan.on_back: plan}, None, "ab", 2, True,
        ):
            for marks in ((), (0,), (0, 3), (0, 0, 0)):
                with self.subTest(plans=plans, marks=marks):
                    self.assertEqual(self.wrong_part(plans=plans, marks=marks), "plans")

    def test_marks_that_are_no_tuple_of_as_many(self):
        for marks in (
            (), (0,), (0, 1, 2), [0, 3], None, 0, "03", True, (0, 4), (4, 0), (-1, 0), (0, -1), (0, True), (False, 0),
            (0, None), ("0", 1), (0, 1.0), ((0,), 1), b"\x00\x01",
        ):
            with self.subTest(marks=marks):
                self.assertEqual(self.wrong_part(marks=marks), "marks")
        for marks in ((), (0, 1), [0], 0, None, (4,), (-1,), (True,), ((0,),)):
            with self.subTest(marks=marks):
                self.assertEqual(self.wrong_part(plans=(self.plan,), marks=marks), "marks")

    def test_of_several_wrong_parameters_the_first_is_told(self):
        wrong = {"plans": (), "marks": (4, 4), "top": 0, "limit": 2, "back": 3, "ahead": 0}
        order = list(wrong)
        for at, part in enumerate(order):
            changes = {name: wrong[name] for name in order[at:]}
            self.assertEqual(self.wrong_part(**changes), part)
            if at < 5:
                self.assertEqual(self.wrong_part(**{part: wrong[part], "ahead": 0}), part)

    def test_setups_are_equal_if_all_parameters_are(self):
        one = self.made(plans=(Plan(*PLAIN), Plan("hold", "borrow", "saved")), marks=(0, 3))
        self.assertIs(one == self.made(), True)
        self.assertIs(one != self.made(), False)
        for changes in (
            {"plans": (self.other, self.plan)}, {"plans": (self.plan, self.plan)},
            {"plans": (self.plan, Plan("hold", "borrow", "wait"))}, {"marks": (3, 0)}, {"marks": (0, 2)},
            {"top": 1}, {"limit": 0}, {"back": 1}, {"ahead": 2}, {"plans": (self.plan,), "marks": (0,)},
        ):
            with self.subTest(changes):
                self.assertIs(one == self.made(**changes), False)
                self.assertIs(one != self.made(**changes), True)

    def test_a_setup_is_equal_to_nothing_else(self):
        setup = self.made()
        for other in (tuple(self.good.values()), self.good, self.plan, setup.plans, None, 2, "", EqualToAll()):
            with self.subTest(other=other):
                self.assertIs(setup == other, False)

    def test_parameters_cannot_be_put_in_from_outside(self):
        with self.assertRaises(AttributeError):
            self.made().top = 1
