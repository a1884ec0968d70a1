import unittest

from ownback import errors
from tests.trying import ODD

ATTRIBUTES = {
    "BadOctets": "at", "BadMachine": "at", "BadHistory": "at", "BadTable": "at", "BadText": "at",
    "Refused": "value", "Broken": "at", "TooGreat": "most", "NoHand": "value", "NoDeed": "value", "NoBoard": "value",
}
LOOKED_UP = ("NoHand", "NoDeed", "NoBoard")


class Errors(unittest.TestCase):
    """Point [4]."""

    def test_base_classes(self):
        self.assertEqual(errors.OwnError.__bases__, (ValueError,))
        for name in ATTRIBUTES:
            base = KeyError if name in LOOKED_UP else errors.OwnError
            self.assertEqual(getattr(errors, name).__bases__, (base,), name)

    def test_each_keeps_what_it_was_given_itself(self):
        for name, attribute in ATTRIBUTES.items():
            kind = getattr(errors, name)
            for value in ODD:
                self.assertIs(getattr(kind(value), attribute), value)
                self.assertIs(getattr(kind(**{attribute: value}), attribute), value)

    def test_later_changes_of_what_was_given_are_seen(self):
        row = [1]
        error = errors.Refused(row)
        row.append(2)
        self.assertEqual(error.value, [1, 2])

    def test_can_be_raised_and_caught_by_base(self):
        for name in ATTRIBUTES:
            with self.assertRaises(KeyError if name in LOOKED_UP else errors.OwnError):
                raise getattr(errors, name)(0)
