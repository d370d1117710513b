import unittest

from meetrows import errors

KINDS = ("BadName", "BadRow", "NoRow", "TooMany", "NoMeet", "Unread")


class Refusals(unittest.TestCase):
    def test_meet_error_is_straight_under_value_error(self):
        self.assertEqual(errors.MeetError.__bases__, (ValueError,))

    def test_each_kind_is_straight_under_meet_error(self):
        for name in KINDS:
            with self.subTest(name):
                self.assertEqual(getattr(errors, name).__bases__, (errors.MeetError,))

    def test_none_is_under_another(self):
        for name in KINDS:
            for other in KINDS:
                with self.subTest(name, other=other):
                    under = issubclass(getattr(errors, name), getattr(errors, other))
                    self.assertEqual(under, name == other)

    def test_each_kind_is_caught_by_its_name_by_meet_error_and_by_value_error(self):
        for name in KINDS:
            kind = getattr(errors, name)
            for caught in (kind, errors.MeetError, ValueError):
                with self.subTest(name, caught=caught):
                    with self.assertRaises(caught) as held:
                        raise kind("why")
                    self.assertEqual(str(held.exception), "why")


if __name__ == "__main__":
    unittest.main()
