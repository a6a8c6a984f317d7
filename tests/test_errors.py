import unittest

from manymakers import errors

ATTRIBUTES = {
    "InvalidPlan": ("part",),
    "InvalidSetup": ("part",),
    "InvalidStanding": (),
    "UnknownMaker": (),
    "InvalidEvent": (),
    "InvalidHistory": ("index",),
    "InvalidNumber": (),
    "InvalidSeries": ("index",),
    "UnlikeSetups": (),
    "InvalidCount": (),
    "InvalidAsks": ("index",),
    "InvalidTime": (),
    "InvalidLog": ("index",),
    "InvalidWidth": (),
    "InvalidValue": (),
    "InvalidName": (),
    "UnknownKept": (),
    "InvalidOperation": ("index",),
    "NoHistory": (),
    "InvalidLine": ("row", "word"),
    "DecodeError": ("offset",),
    "ScriptError": ("row",),
    "ExecutionFailed": ("row",),
    "TooLong": (),
}


class ErrorClasses(unittest.TestCase):
    def test_the_base_class_is_a_value_error(self):
        self.assertEqual(errors.MakerError.__bases__, (ValueError,))
        self.assertEqual(errors.MakerError.__module__, "manymakers.errors")

    def test_all_others_are_direct_subclasses_of_the_base_class(self):
        for name in ATTRIBUTES:
            with self.subTest(name):
                made = getattr(errors, name)
                self.assertEqual(made.__bases__, (errors.MakerError,))
                self.assertEqual((made.__name__, made.__module__), (name, "manymakers.errors"))

    def test_there_are_no_other_error_classes(self):
        names = {made.__name__ for made in errors.MakerError.__subclasses__()}
        self.assertEqual(names, set(ATTRIBUTES))

    def test_attributes_are_set_when_an_error_is_created(self):
        for name, attributes in ATTRIBUTES.items():
            with self.subTest(name):
                values = [f"told {at}" for at in range(len(attributes))]
                error = getattr(errors, name)(*values)
                self.assertEqual(vars(error), dict(zip(attributes, values)))

    def test_attributes_belong_to_one_object_each(self):
        one, other = errors.InvalidLine(0, 2), errors.InvalidLine(5, 1)
        self.assertEqual([(one.row, one.word), (other.row, other.word)], [(0, 2), (5, 1)])

    def test_all_can_be_caught_as_the_base_class_and_as_value_errors(self):
        for name, attributes in ATTRIBUTES.items():
            for caught in (errors.MakerError, ValueError):
                with self.subTest(name), self.assertRaises(caught):
                    raise getattr(errors, name)(*attributes)
