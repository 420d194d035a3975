import unittest

from freehour import errors

NAMES = [
    "NoDate", "NoRule", "NoName", "Taken", "Stranger",
    "Twice", "NoTime", "NoMeeting", "Clash", "TooLong",
]


class TestErrors(unittest.TestCase):
    def test_hour_error_is_a_value_error(self):
        self.assertEqual(errors.HourError.__bases__, (ValueError,))

    def test_each_stands_straight_under_hour_error(self):
        for name in NAMES:
            self.assertEqual(getattr(errors, name).__bases__, (errors.HourError,), name)

    def test_none_is_another(self):
        self.assertEqual(len({getattr(errors, name) for name in NAMES}), 10)

    def test_each_is_taken_as_each_class_above(self):
        for name in NAMES:
            for above in (getattr(errors, name), errors.HourError, ValueError):
                with self.assertRaises(above):
                    raise getattr(errors, name)("why")

    def test_they_are_defined_in_this_file(self):
        for name in NAMES + ["HourError"]:
            self.assertEqual(getattr(errors, name).__module__, "freehour.errors")


if __name__ == "__main__":
    unittest.main()
