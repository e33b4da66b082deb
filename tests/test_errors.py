"""The interface's section reels/errors.py."""

import unittest

from reels.errors import BadNote, BadTime, NoDeed, OffReel, ReelError, TooTight

KINDS = (BadTime, BadNote, OffReel, NoDeed, TooTight)


class ErrorsTest(unittest.TestCase):
    def test_every_refusal_is_a_value_error(self):
        self.assertEqual(ReelError.__bases__, (ValueError,))

    def test_each_kind_is_a_reel_error_itself(self):
        for kind in KINDS:
            with self.subTest(kind=kind.__name__):
                self.assertEqual(kind.__bases__, (ReelError,))

    def test_none_is_another_ones_kind(self):
        for kind in KINDS:
            for other in KINDS:
                with self.subTest(kind=kind.__name__, other=other.__name__):
                    self.assertEqual(issubclass(kind, other), kind is other)

    def test_each_can_be_raised_and_caught(self):
        for kind in KINDS:
            with self.subTest(kind=kind.__name__):
                with self.assertRaises(ReelError):
                    raise kind(0) if kind is BadNote else kind("why")

    def test_a_bad_note_has_its_line(self):
        for line in (0, 1, 700):
            self.assertEqual(BadNote(line).line, line)


if __name__ == "__main__":
    unittest.main()
