"""The interface: the classes of errors."""

import unittest

from warmcold import errors

OF_A_TEXT = (
    "NoLength", "NoPlace", "NoStands", "NoAnswers", "NoStretch", "NoAnswer", "NotNow", "Never", "NothingLeft",
)


class ErrorsTest(unittest.TestCase):
    def test_any_refusal_is_a_value_error(self):
        self.assertEqual(errors.SeekError.__bases__, (ValueError,))

    def test_each_stands_straight_under_seek_error(self):
        for name in OF_A_TEXT + ("TooLong",):
            with self.subTest(name):
                self.assertEqual(getattr(errors, name).__bases__, (errors.SeekError,))

    def test_none_stands_under_another_one(self):
        kinds = [getattr(errors, name) for name in OF_A_TEXT + ("TooLong",)]
        for one in kinds:
            for other in kinds:
                self.assertEqual(issubclass(one, other), one is other)

    def test_made_of_a_text(self):
        for name in OF_A_TEXT:
            with self.subTest(name):
                self.assertEqual(str(getattr(errors, name)("why it is none")), "why it is none")

    def test_too_long_is_made_of_its_field(self):
        self.assertEqual(errors.TooLong(16).most, 16)
        self.assertEqual(errors.TooLong(7).most, 7)

    def test_too_long_can_be_raised_and_caught(self):
        with self.assertRaises(errors.SeekError) as caught:
            raise errors.TooLong(16)
        self.assertEqual(caught.exception.most, 16)
        self.assertIn("16", str(caught.exception))


if __name__ == "__main__":
    unittest.main()
