"""Point 5: the errors of the package."""

import unittest

from leasefiles import errors
from tests.samples import all_values

FIELDLESS = [
    "NoText", "NoEdit", "Unfit", "NoTable", "NoDeed", "NoName", "NoLetter", "NoSheet", "NoNote", "NoOp", "Busy",
    "NoClient", "NoMachine", "NoEvent", "NoDisk", "NoArea", "NoNumber", "NoStand", "NoThing", "NoItems",
    "NoHistory", "NoPrime", "NoNumbers", "NoPlaces", "NoValues", "NoPolynomial", "NoStamp", "NoDay", "NoKind",
    "Unlet",
]
FIELDS = [("NoItem", "index"), ("BadText", "place")]
ALL = FIELDLESS + [name for name, _ in FIELDS]


class Classes(unittest.TestCase):
    def test_lease_error_is_a_value_error(self):
        self.assertEqual(errors.LeaseError.__bases__, (ValueError,))

    def test_each_is_a_direct_subclass(self):
        for name in ALL:
            with self.subTest(name):
                self.assertEqual(getattr(errors, name).__bases__, (errors.LeaseError,))

    def test_none_is_a_subclass_of_another(self):
        for name in ALL:
            for other in ALL:
                if name != other:
                    self.assertFalse(issubclass(getattr(errors, name), getattr(errors, other)), (name, other))

    def test_each_is_defined_in_errors_under_its_name(self):
        for name in ALL + ["LeaseError"]:
            self.assertEqual(getattr(errors, name).__module__, "leasefiles.errors")
            self.assertEqual(getattr(errors, name).__name__, name)

    def test_each_can_be_caught_as_its_bases(self):
        for name in FIELDLESS:
            for base in (getattr(errors, name), errors.LeaseError, ValueError):
                with self.assertRaises(base):
                    raise getattr(errors, name)()


class Construction(unittest.TestCase):
    def test_without_fields_without_arguments(self):
        for name in FIELDLESS:
            with self.subTest(name):
                self.assertIsInstance(getattr(errors, name)(), errors.LeaseError)

    def test_fields_are_kept_whatever_they_are(self):
        for name, field in FIELDS:
            for value in all_values():
                error = getattr(errors, name)(value)
                self.assertIs(getattr(error, field), value)

    def test_fields_are_those_of_each_object(self):
        for name, field in FIELDS:
            first, second = getattr(errors, name)(1), getattr(errors, name)(2)
            self.assertEqual((getattr(first, field), getattr(second, field)), (1, 2))

    def test_a_list_changed_later_is_changed_in_the_error(self):
        for name, field in FIELDS:
            handed = [1]
            error = getattr(errors, name)(handed)
            handed.append(2)
            self.assertEqual(getattr(error, field), [1, 2])

    def test_raised_errors_bring_their_fields(self):
        for name, field in FIELDS:
            with self.assertRaises(errors.LeaseError) as caught:
                raise getattr(errors, name)(17)
            self.assertEqual(getattr(caught.exception, field), 17)


if __name__ == "__main__":
    unittest.main()
