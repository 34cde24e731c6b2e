import unittest

from fewtests import errors

# For each class: the built-in kind, and the names of its arguments.
CLASSES = {
    "InvalidWriter": (ValueError, ("part",)),
    "InvalidForm": (ValueError, ("part",)),
    "InvalidClaim": (ValueError, ()),
    "InvalidEdits": (ValueError, ("index",)),
    "InvalidName": (ValueError, ("value",)),
    "InvalidCount": (ValueError, ("value",)),
    "KindsDiffer": (ValueError, ()),
    "Differs": (ValueError, ("word",)),
    "ParseError": (ValueError, ("line",)),
    "UnknownKind": (LookupError, ("value",)),
    "UnknownEntry": (LookupError, ("index",)),
    "UnknownName": (LookupError, ("value",)),
    "UnknownPress": (LookupError, ("number",)),
    "UnknownRecord": (LookupError, ("number",)),
    "UnknownCheckpoint": (LookupError, ("number",)),
    "Refused": (RuntimeError, ("index",)),
    "EditRefused": (RuntimeError, ("index", "reason")),
    "Barred": (RuntimeError, ("number",)),
    "NoOutcome": (RuntimeError, ()),
    "NotWritten": (RuntimeError, ()),
    "AlreadySent": (RuntimeError, ("text",)),
    "TooFar": (RuntimeError, ("many",)),
    "LimitExceeded": (OverflowError, ("limit",)),
}

# What the arguments can be: each kind of value that an error of the document is made with.
VALUES = (None, 0, 7, -3, True, "", "ab", (), ("state", 3), (0, 1, 0), [1], {"a": (2,)})


class ErrorsTest(unittest.TestCase):
    def for_each(self, check):
        for name, (kind, arguments) in CLASSES.items():
            with self.subTest(name=name):
                check(getattr(errors, name), kind, arguments)

    def check_made(self, error, kind, arguments, given):
        self.assertIsInstance(error, kind)
        for argument, value in zip(arguments, given):
            self.assertIs(getattr(error, argument), value)
        self.assertEqual(set(vars(error)), set(arguments))

    def test_there_are_no_other_classes(self):
        found = {name for name, value in vars(errors).items() if isinstance(value, type)}
        self.assertEqual(found, set(CLASSES))

    def test_each_is_a_direct_subclass_of_its_builtin_kind_alone(self):
        self.for_each(lambda made, kind, arguments: self.assertEqual(made.__bases__, (kind,)))

    def test_none_is_a_subclass_of_another_one(self):
        def check(made, kind, arguments):
            others = [getattr(errors, name) for name in CLASSES if name != made.__name__]
            self.assertFalse([other for other in others if issubclass(made, other)])

        self.for_each(check)

    def test_each_is_defined_in_this_module(self):
        self.for_each(lambda made, kind, arguments: self.assertEqual(made.__module__, "fewtests.errors"))

    def test_made_by_position(self):
        def check(made, kind, arguments):
            for at in range(len(VALUES)):
                given = [VALUES[at - k] for k in range(len(arguments))]
                self.check_made(made(*given), kind, arguments, given)

        self.for_each(check)

    def test_made_by_name(self):
        def check(made, kind, arguments):
            for at in range(len(VALUES)):
                given = [VALUES[at - k] for k in range(len(arguments))]
                by_name = dict(reversed(list(zip(arguments, given))))
                self.check_made(made(**by_name), kind, arguments, given)

        self.for_each(check)

    def test_other_numbers_of_arguments_do_not_fit(self):
        def check(made, kind, arguments):
            self.assertRaises(TypeError, made, *range(len(arguments) + 1))
            if arguments:
                self.assertRaises(TypeError, made)

        self.for_each(check)

    def test_raised_and_caught_with_a_message(self):
        def check(made, kind, arguments):
            with self.assertRaises(kind) as caught:
                raise made(*arguments)
            self.assertIs(caught.exception.__class__, made)
            self.assertTrue(str(caught.exception))

        self.for_each(check)


if __name__ == "__main__":
    unittest.main()
