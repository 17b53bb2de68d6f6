import unittest

from satchelmeet import errors

NAMES = [
    "NoBook", "NoMeeting", "NoDeed", "NoLetter", "NoWalker", "NotThere", "HasIt", "NoPass", "NoRoom",
    "NoRule", "TooMany", "NoDay", "NoClaim", "NoText", "NoRow", "NoName", "Twice",
]


class Refusals(unittest.TestCase):
    def test_there_are_seventeen(self):
        self.assertEqual(len(set(NAMES)), 17)
        found = [thing for thing in vars(errors).values() if isinstance(thing, type)]
        self.assertEqual(sorted(kind.__name__ for kind in found), sorted(NAMES + ["MeetError"]))

    def test_meet_error_is_a_value_error(self):
        self.assertEqual(errors.MeetError.__bases__, (ValueError,))

    def test_each_is_right_under_meet_error(self):
        for name in NAMES:
            self.assertEqual(getattr(errors, name).__bases__, (errors.MeetError,), name)

    def test_none_stands_under_another_one(self):
        for name in NAMES:
            for other in NAMES:
                under = issubclass(getattr(errors, name), getattr(errors, other))
                self.assertEqual(under, name == other)

    def test_each_is_made_of_a_text(self):
        for name in NAMES + ["MeetError"]:
            error = getattr(errors, name)("why so")
            self.assertEqual(str(error), "why so")
            self.assertIsInstance(error, ValueError)


if __name__ == "__main__":
    unittest.main()
