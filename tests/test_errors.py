"""Point 3 and the interface's list: the classes of the refusals, and their fields."""

import unittest

from waitbolts import errors

PLAIN = (
    "NoStand NoWish NoWishes NoPrice NoMost NoPlace NoJoin NoBack NoPaper NoBolt NoGap NoWay NoNames NoPlaces "
    "NoCount NoDeed NoRow TooWide TooLong Taken Unlike Never"
).split()
FIELDS = {
    "NoLock": "fault", "NoStep": "nth", "NoBook": "part", "NoText": "row", "OneWay": "bolt", "Poor": "price",
}


class ErrorsTest(unittest.TestCase):
    def test_bolt_error_is_a_value_error(self):
        self.assertEqual(errors.BoltError.__bases__, (ValueError,))

    def test_those_straight_under_bolt_error(self):
        for name in PLAIN + list(FIELDS):
            self.assertEqual(getattr(errors, name).__bases__, (errors.BoltError,), name)

    def test_those_beside(self):
        self.assertEqual(errors.NothingDone.__bases__, (LookupError,))
        self.assertEqual(errors.NotYet.__bases__, (RuntimeError,))

    def test_there_are_no_others(self):
        told = {name for name in vars(errors) if isinstance(getattr(errors, name), type)}
        self.assertEqual(told, set(PLAIN) | set(FIELDS) | {"BoltError", "NothingDone", "NotYet"})

    def test_fields_are_given_by_their_places(self):
        for name, field in FIELDS.items():
            self.assertEqual(getattr(getattr(errors, name)(7), field), 7, name)
        self.assertEqual(errors.NoLock(("bolt", 3)).fault, ("bolt", 3))

    def test_the_others_are_made_of_nothing(self):
        for name in PLAIN + ["BoltError", "NothingDone", "NotYet"]:
            with self.assertRaises(getattr(errors, name)):
                raise getattr(errors, name)()


if __name__ == "__main__":
    unittest.main()
