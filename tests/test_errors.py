"""Every error: its code, its attributes, its base class."""

import inspect
import unittest

from lookedrows import errors

# For each error its parameters.
TABLE_ERRORS = {
    "InvalidName": ["given"], "InvalidColumns": [], "InvalidRow": ["index"], "InvalidValue": [],
    "InvalidCondition": ["path"], "InvalidArguments": [], "InvalidStatement": ["path"],
    "InvalidComparison": ["index"], "NotOpen": [], "InvalidRule": ["index"], "NotCarried": ["witness"],
    "ColumnsDiffer": [], "InvalidCount": ["given"], "FailsLate": ["index"], "TooWide": ["most"], "InvalidText": [],
    "InvalidLine": ["index"], "DuplicateName": ["name"], "WrongKind": ["name"], "Full": ["limit"],
    "InvalidLimit": ["given"], "InvalidCommand": ["index"], "Failed": ["word"],
}
MISSING_ERRORS = {"UnknownKey": ["key"], "UnknownName": ["name"]}
BASES = {"TableError": ValueError, "Missing": LookupError, "NothingLeft": IndexError}
ATTRIBUTES = (
    0, 1, -1, 10 ** 30, 10 ** 5000, "", "a", "two words", "\n", True, False, None, (), (1, 2, 3), [], [(1, 2), (3, 4)],
    ("a", ["b", None]),
)


def base_of(name):
    if name in BASES:
        return BASES[name]
    return errors.TableError if name in TABLE_ERRORS else errors.Missing


def parameters():
    """A dict from the name of each error to its parameters."""
    return {**TABLE_ERRORS, **MISSING_ERRORS, **{name: [] for name in BASES}}


class TestErrors(unittest.TestCase):

    def test_there_are_just_these_errors(self):
        found = [name for name, thing in vars(errors).items() if inspect.isclass(thing)]
        self.assertEqual(sorted(found), sorted(parameters()))

    def test_each_error_has_just_its_base_class(self):
        for name in parameters():
            self.assertEqual(getattr(errors, name).__bases__, (base_of(name),), name)

    def test_no_error_is_a_kind_of_another_one(self):
        for one in parameters():
            for other in parameters():
                wanted = one == other or base_of(one) is getattr(errors, other)
                self.assertEqual(issubclass(getattr(errors, one), getattr(errors, other)), wanted, (one, other))

    def test_errors_of_python_are_bases_only_where_they_are_listed(self):
        for name in parameters():
            cls = getattr(errors, name)
            self.assertEqual(issubclass(cls, ValueError), name in TABLE_ERRORS or name == "TableError", name)
            self.assertEqual(issubclass(cls, IndexError), name == "NothingLeft", name)
            self.assertEqual(issubclass(cls, LookupError), name in ("NothingLeft", "Missing", *MISSING_ERRORS), name)
            self.assertFalse(issubclass(cls, KeyError), name)

    def test_the_parameters_have_their_names(self):
        for name, wanted in parameters().items():
            self.assertEqual(list(inspect.signature(getattr(errors, name)).parameters), wanted, name)

    def test_errors_without_parameters(self):
        for name, wanted in parameters().items():
            if not wanted:
                error = getattr(errors, name)()
                self.assertEqual(vars(error), {"code": name})

    def test_errors_with_any_attribute(self):
        for name, wanted in parameters().items():
            for given in ATTRIBUTES if wanted else ():
                by_place, by_name = getattr(errors, name)(given), getattr(errors, name)(**{wanted[0]: given})
                for error in (by_place, by_name):
                    self.assertEqual(vars(error), {"code": name, wanted[0]: given})
                    self.assertIs(getattr(error, wanted[0]), given)

    def test_two_errors_of_a_class_have_their_own_attributes(self):
        one, other = errors.InvalidRow(1), errors.InvalidRow(2)
        self.assertEqual([one.index, other.index], [1, 2])

    def test_errors_are_raised_and_caught_by_their_classes(self):
        for name, wanted in parameters().items():
            with self.assertRaises(base_of(name)) as caught:
                raise getattr(errors, name)(*wanted)
            self.assertEqual(caught.exception.code, name)


if __name__ == "__main__":
    unittest.main()
