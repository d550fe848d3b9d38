"""The refusals of the interface: their places under one another and their fields."""

import unittest

from struckdeeds import errors

FIELDS = {
    "NoText": "part", "NoDeed": None, "NotNow": "name", "NoRow": "number", "NoBook": "number",
    "NoLine": "line", "NoStand": None, "NoName": "name", "NoNeed": "line", "NoMark": "name",
    "NoJoin": None, "NoCall": "row", "NoLog": "name",
}


class ErrorsTest(unittest.TestCase):

    def test_each_stands_straight_under_strike_error(self):
        self.assertEqual(errors.StrikeError.__bases__, (ValueError,))
        for name in FIELDS:
            with self.subTest(name):
                self.assertEqual(getattr(errors, name).__bases__, (errors.StrikeError,))

    def test_none_stands_under_another_one(self):
        classes = [getattr(errors, name) for name in FIELDS]
        for one in classes:
            for other in classes:
                if one is not other:
                    self.assertFalse(issubclass(one, other))

    def test_there_are_no_others(self):
        self.assertEqual({name for name in vars(errors) if not name.startswith("__")}, set(FIELDS) | {"StrikeError"})

    def test_fields_are_set_when_made(self):
        for name, field in FIELDS.items():
            for thing in (0, 7, None, "a", [], (1, [2]), {"a": 1}, True):
                with self.subTest(name, thing=thing):
                    made = getattr(errors, name)
                    wished = {} if field is None else {field: thing}
                    self.assertEqual(vars(made() if field is None else made(thing)), wished)

    def test_any_is_taken_as_a_strike_error(self):
        for name, field in FIELDS.items():
            with self.subTest(name), self.assertRaises(errors.StrikeError):
                raise getattr(errors, name)(*([] if field is None else [3]))


if __name__ == "__main__":
    unittest.main()
