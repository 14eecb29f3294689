"""The error classes: their bases, and how they are created."""

import inspect
import unittest

from lastpasses import errors
from common import NUMBERS, ODD_VALUES, TEXTS

FAMILIES = {"PassError": ValueError, "FindError": LookupError, "LimitError": ArithmeticError}

# For each class the attribute, None if it has none.
MEMBERS = {
    "PassError": {
        "InvalidRow": "index", "InvalidNumber": "number", "InvalidKind": "kind", "InvalidWord": "index",
        "InvalidSize": "size", "InvalidProgram": "index", "InvalidText": "text", "InvalidHeights": "index",
        "InvalidWishes": "index", "InvalidRecord": "index", "InvalidPattern": "index", "InvalidShare": "share",
        "InvalidPeople": "index", "InvalidName": "name", "InvalidHeight": "height", "InvalidDeed": "index",
        "InvalidCommand": "line",
    },
    "FindError": {
        "NotFinal": "index", "OtherPersons": None, "UnknownName": "name", "UnknownHeight": "height",
        "NoOrder": None, "NameTaken": "name", "HeightTaken": "height", "NothingToUndo": None,
    },
    "LimitError": {
        "TooManySeats": "seats", "TooManyPeople": "count", "WordTooShort": "length", "TooManyDeeds": "count",
        "LastPerson": None,
    },
}


def members(with_attribute):
    """Return (family name, class, attribute) for the classes with an attribute, or for those without."""
    return [
        (family, getattr(errors, name), attribute)
        for family, names in MEMBERS.items()
        for name, attribute in names.items()
        if (attribute is not None) == with_attribute
    ]


class Bases(unittest.TestCase):
    def test_families_have_only_the_base_of_python(self):
        for family, base in FAMILIES.items():
            with self.subTest(family=family):
                self.assertEqual(getattr(errors, family).__bases__, (base,))

    def test_members_have_only_their_family(self):
        for family, member, _ in members(True) + members(False):
            with self.subTest(member=member.__name__):
                self.assertEqual(member.__bases__, (getattr(errors, family),))
                self.assertTrue(issubclass(member, FAMILIES[family]))

    def test_members_are_of_no_other_class_of_the_package(self):
        classes = [getattr(errors, family) for family in FAMILIES]
        classes += [member for _, member, _ in members(True) + members(False)]
        for family, member, _ in members(True) + members(False):
            own = (member, getattr(errors, family))
            for other in classes:
                with self.subTest(member=member.__name__, other=other.__name__):
                    self.assertEqual(issubclass(member, other), other in own)

    def test_families_are_of_no_other_family(self):
        for family, base in FAMILIES.items():
            for other, other_base in FAMILIES.items():
                if other != family:
                    with self.subTest(family=family, other=other):
                        self.assertFalse(issubclass(getattr(errors, family), getattr(errors, other)))
                        self.assertFalse(issubclass(getattr(errors, family), other_base))

    def test_there_are_no_other_classes(self):
        wanted = set(FAMILIES) | {name for names in MEMBERS.values() for name in names}
        found = {name for name, value in vars(errors).items() if inspect.isclass(value)}
        self.assertEqual(found, wanted)

    def test_all_are_defined_in_errors(self):
        for _, member, _ in members(True) + members(False):
            self.assertEqual(member.__module__, "lastpasses.errors")


class Creation(unittest.TestCase):
    def test_by_position(self):
        for _, member, attribute in members(True):
            for value in (2, None, True, "t", (2, 4)) + NUMBERS + TEXTS + ODD_VALUES:
                with self.subTest(member=member.__name__):
                    error = member(value)
                    self.assertIs(getattr(error, attribute), value)
                    self.assertEqual(list(vars(error)), [attribute])

    def test_by_keyword(self):
        for _, member, attribute in members(True):
            for value in (2, None, True, "t", (2, 4)) + NUMBERS + TEXTS + ODD_VALUES:
                with self.subTest(member=member.__name__):
                    error = member(**{attribute: value})
                    self.assertIs(getattr(error, attribute), value)
                    self.assertEqual(list(vars(error)), [attribute])

    def test_without_attribute(self):
        for _, member, _ in members(False):
            with self.subTest(member=member.__name__):
                self.assertEqual(vars(member()), {})

    def test_the_attribute_is_required(self):
        for _, member, _ in members(True):
            with self.subTest(member=member.__name__):
                with self.assertRaises(TypeError):
                    member()

    def test_raised_and_caught_by_family_and_by_base(self):
        for family, member, _ in members(True):
            for caught in (member, getattr(errors, family), FAMILIES[family]):
                with self.subTest(member=member.__name__, caught=caught.__name__):
                    with self.assertRaises(caught):
                        raise member(3)


if __name__ == "__main__":
    unittest.main()
