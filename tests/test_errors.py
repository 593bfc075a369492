import unittest

from ticketroom import errors


class ErrorClasses(unittest.TestCase):
    def test_room_error_stands_right_under_value_error(self):
        self.assertEqual(errors.RoomError.__bases__, (ValueError,))

    def test_each_refusal_stands_right_under_room_error(self):
        for name in ("NoHand", "WantsIn", "Within", "Out", "NoLine"):
            with self.subTest(name):
                self.assertEqual(getattr(errors, name).__bases__, (errors.RoomError,))

    def test_no_refusal_is_another_one(self):
        kinds = [errors.NoHand, errors.WantsIn, errors.Within, errors.Out, errors.NoLine]
        for one in kinds:
            for other in kinds:
                self.assertEqual(issubclass(one, other), one == other)

    def test_they_are_made_with_words(self):
        self.assertEqual(str(errors.NoHand("some words")), "some words")


if __name__ == "__main__":
    unittest.main()
