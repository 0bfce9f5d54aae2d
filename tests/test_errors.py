"""The errors of the package: their bases and what they keep."""

import unittest

from wakedenough import errors

VALUES = [0, 7, -3, None, True, "a", "", (1, 2), [1, [2]], {"a": [1]}]

BASES = {
    "ScaleError": ValueError,
    "BadText": errors.ScaleError,
    "BadTree": errors.ScaleError,
    "TooGreat": errors.ScaleError,
    "BadAct": errors.ScaleError,
    "BadAsk": errors.ScaleError,
    "NotServed": errors.ScaleError,
    "NothingDone": errors.ScaleError,
    "NameMissing": LookupError,
    "UnknownName": errors.NameMissing,
}

ARGUMENTS = {
    "BadText": "place",
    "BadAct": "word",
    "BadAsk": "word",
    "NotServed": "tick",
    "UnknownName": "name",
}


class Bases(unittest.TestCase):
    def test_each_has_its_one_base(self):
        for name, base in BASES.items():
            self.assertEqual(getattr(errors, name).__bases__, (base,), name)

    def test_no_other_class_is_there(self):
        self.assertEqual({name for name, value in vars(errors).items() if isinstance(value, type)}, set(BASES))

    def test_the_two_families_are_apart(self):
        self.assertFalse(issubclass(errors.NameMissing, (errors.ScaleError, ValueError)))
        self.assertFalse(issubclass(errors.UnknownName, (errors.ScaleError, ValueError)))
        self.assertFalse(issubclass(errors.ScaleError, LookupError))


class Arguments(unittest.TestCase):
    def test_an_argument_is_kept_as_it_is(self):
        for name, attribute in ARGUMENTS.items():
            for value in VALUES:
                error = getattr(errors, name)(value)
                self.assertIs(getattr(error, attribute), value, name)

    def test_an_argument_has_its_name(self):
        for name, attribute in ARGUMENTS.items():
            error = getattr(errors, name)(**{attribute: 5})
            self.assertEqual(getattr(error, attribute), 5)
        self.assertEqual(errors.BadTree(path=[1]).path, (1,))

    def test_a_path_is_a_tuple(self):
        for path in ([], (), [2, 0, 1], (2, 0, 1)):
            error = errors.BadTree(path)
            self.assertIs(type(error.path), tuple)
            self.assertEqual(error.path, tuple(path))

    def test_a_path_is_not_changed_from_outside(self):
        path = [1, 2]
        error = errors.BadTree(path)
        path.append(3)
        self.assertEqual(error.path, (1, 2))

    def test_just_the_told_arguments(self):
        for name in [*ARGUMENTS, "BadTree"]:
            self.assertRaises(TypeError, getattr(errors, name))
            self.assertRaises(TypeError, getattr(errors, name), (), ())
        for name in ("TooGreat", "NothingDone"):
            error = getattr(errors, name)()
            self.assertEqual(vars(error), {})

    def test_an_error_can_be_shown(self):
        for name in [*ARGUMENTS, "BadTree"]:
            self.assertIsInstance(str(getattr(errors, name)((1, 2))), str)


if __name__ == "__main__":
    unittest.main()
