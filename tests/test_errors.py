"""The row errors of the interface."""

import unittest

from poundmeets import errors

NAMES = (
    "NoCanal", "NoRow", "Barred", "NoDay", "NoTable", "NoLock", "NoBook", "NoBooks",
    "NoNumber", "NoSights", "NoneAgree", "NoGates", "NoWay", "NoBoat", "NoPlace",
    "NoDeed", "NoText", "NoLine",
)


class Errors(unittest.TestCase):
    def test_base_is_a_value_error(self):
        self.assertEqual(errors.PoundError.__bases__, (ValueError,))
        self.assertEqual(str(errors.PoundError("why")), "why")

    def test_each_stands_straight_under_the_base(self):
        for name in NAMES + ("TooMany",):
            kind = getattr(errors, name)
            self.assertEqual(kind.__bases__, (errors.PoundError,), name)
            self.assertEqual(kind.__name__, name)
            self.assertEqual(kind.__module__, "poundmeets.errors")

    def test_nothing_else_stands_there(self):
        found = {name for name, kind in vars(errors).items() if isinstance(kind, type)}
        self.assertEqual(found, set(NAMES) | {"PoundError", "TooMany"})

    def test_each_is_made_with_a_text(self):
        for name in NAMES:
            self.assertEqual(str(getattr(errors, name)("why it is so")), "why it is so")

    def test_too_many_has_its_fields(self):
        made = (
            errors.TooMany(5, 4), errors.TooMany(5, most=4),
            errors.TooMany(many=5, most=4), errors.TooMany(most=4, many=5),
        )
        for told in made:
            self.assertEqual((told.many, told.most), (5, 4))
            self.assertIsInstance(str(told), str)

    def test_too_many_wants_both_fields(self):
        for given in ((), (5,), (5, 4, 3)):
            with self.assertRaises(TypeError):
                errors.TooMany(*given)

    def test_each_is_caught_as_the_base(self):
        for name in NAMES:
            with self.assertRaises(errors.PoundError):
                raise getattr(errors, name)("why")
        with self.assertRaises(errors.PoundError):
            raise errors.TooMany(5, 4)


if __name__ == "__main__":
    unittest.main()
