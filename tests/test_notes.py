"""Point 12: cues written as lines and read back; and point 1, as far as it concerns them."""

import copy
import re
import unittest
from fractions import Fraction

from reels.errors import BadNote, BadTime, ReelError
from reels.notes import read_cues, written
from tests.helper import pair

NUMBER = "(0|[1-9][0-9]{0,8})"
TIME = f"{NUMBER}(?: {NUMBER}/{NUMBER})?f"
CUE_LINE = re.compile(f"cue {NUMBER} from {TIME} to {TIME}")
WORD_LINE = re.compile(f"  ([a-z]{{1,20}}) at {TIME}")


def cue_of(number, begin, end, *words):
    said = [tuple(word.split()) for word in words]
    return (number, pair(begin), pair(end), [(word, pair(time)) for word, time in said])


def time_by_pattern(whole, top, bottom):
    """The time of three groups; None where its rest is none."""
    if top is None:
        return Fraction(int(whole))
    rest = Fraction(int(top), int(bottom)) if int(bottom) else None
    if rest is None or not 0 < rest < 1 or rest.numerator != int(top):
        return None
    return int(whole) + rest


def is_good(lines):
    """A second reader, by patterns: whether lines, at least one, write cues."""
    number, begin, end, word_time = -1, None, None, None
    for line in lines:
        if found := CUE_LINE.fullmatch(line):
            ahead, number = number, int(found[1])
            begin, end = time_by_pattern(*found.groups()[1:4]), time_by_pattern(*found.groups()[4:])
            word_time = begin
            if number <= ahead or begin is None or end is None or begin >= end:
                return False
        elif found := WORD_LINE.fullmatch(line):
            time = time_by_pattern(*found.groups()[1:])
            if number < 0 or time is None or not word_time <= time < end:
                return False
            word_time = time
        else:
            return False
    return True


def first_bad(text):
    """The number of the first line that is not so; None where the text writes cues."""
    lines = text.split("\n")
    if text == "":
        return None
    return next((at for at in range(len(lines)) if not is_good(lines[:at + 1])), None)


# Each list of cues with the lines that it is written as.
NOTES = [
    ([], []),
    ([cue_of(0, 0, 1)], ["cue 0 from 0f to 1f"]),
    ([cue_of(3, "22/3", 12, "hear 22/3", "at 8", "cue 8", "from 17/2", "to 35/3")],
     ["cue 3 from 7 1/3f to 12f", "  hear at 7 1/3f", "  at at 8f", "  cue at 8f", "  from at 8 1/2f",
      "  to at 11 2/3f"]),
    ([cue_of(0, 5, 6), cue_of(1, 0, 100, "a 0"), cue_of(12, "1/2", "3/4", "abcdefghijklmnopqrst 1/2", "z 2/3")],
     ["cue 0 from 5f to 6f", "cue 1 from 0f to 100f", "  a at 0f", "cue 12 from 0 1/2f to 0 3/4f",
      "  abcdefghijklmnopqrst at 0 1/2f", "  z at 0 2/3f"]),
    ([cue_of(999999999, Fraction(999999998, 999999999), 999999999, "uvwxyz 999999998")],
     ["cue 999999999 from 0 999999998/999999999f to 999999999f", "  uvwxyz at 999999998f"]),
    ([cue_of(number, number, number + 2, f"no {number}", f"yes {2 * number + 1}/2") for number in range(40)],
     [line for number in range(40) for line in (
         f"cue {number} from {number}f to {number + 2}f", f"  no at {number}f", f"  yes at {number} 1/2f")]),
]


class WrittenTest(unittest.TestCase):
    def test_line_by_line(self):
        for cues, lines in NOTES:
            kept = copy.deepcopy(cues)
            text = written(cues)
            self.assertIsInstance(text, str)
            self.assertEqual(text, "\n".join(lines))
            self.assertEqual(cues, kept)

    def test_a_hundred_cues_of_a_hundred_words(self):
        words = [f"word {time}" for time in range(100)]
        cues = [cue_of(number, 0, 100, *words) for number in range(100)]
        text = written(cues)
        self.assertEqual(len(text.split("\n")), 100 * 101)
        self.assertEqual(read_cues(text), cues)


class ReadTest(unittest.TestCase):
    def check_kinds(self, cues):
        self.assertIsInstance(cues, list)
        for cue in cues:
            self.assertEqual([type(value) for value in cue], [int, tuple, tuple, list])
            self.assertIsInstance(cue, tuple)
            for word in cue[3]:
                self.assertIsInstance(word, tuple)
                self.assertEqual([type(value) for value in word], [str, tuple])

    def test_what_is_written_is_read_back(self):
        # Each one behind each other one: what was read before must not matter.
        for ahead, lines in NOTES:
            for cues, others in NOTES:
                read_cues("\n".join(lines))
                told = read_cues(written(cues))
                self.assertEqual(told, cues)
                self.check_kinds(told)

    def test_what_is_told_is_new(self):
        for cues, lines in NOTES:
            told = read_cues("\n".join(lines))
            for cue in told:
                cue[3].clear()
            told.clear()
            self.assertEqual(read_cues("\n".join(lines)), cues)

    def test_what_was_read_is_written_again(self):
        for cues, lines in NOTES:
            self.assertEqual(written(read_cues("\n".join(lines))), "\n".join(lines))


class RefusedTest(unittest.TestCase):
    def check_bad(self, text, line):
        with self.subTest(text=text):
            with self.assertRaises(BadNote) as caught:
                read_cues(text)
            self.assertIs(type(caught.exception), BadNote)
            self.assertIs(type(caught.exception.line), int)
            self.assertEqual(caught.exception.line, line)

    def check_as_by_pattern(self, text):
        line = first_bad(text)
        if line is None:
            self.assertEqual(written(read_cues(text)), text)
        else:
            self.check_bad(text, line)

    def check_line(self, line, others=()):
        """A line that is bad wherever it stands; but an empty one alone is the text of no cues."""
        ahead = ["cue 1 from 0f to 10f", "  word at 5f", *others]
        if line:
            self.check_bad(line, 0)
        self.check_bad("\n".join(ahead + [line]), len(ahead))
        self.check_bad("\n".join(ahead + [line, "cue 5 from 0f to 1f", "x"]), len(ahead))

    def test_the_kind_of_the_refusal(self):
        for kind in (BadNote, ReelError, ValueError):
            with self.assertRaises(kind):
                read_cues("cue")
        with self.assertRaises(BadNote) as caught:
            read_cues("cue 0 from 0s to 1f")
        self.assertNotIsInstance(caught.exception, BadTime)

    def test_lines_that_are_none(self):
        for line in ("", " ", "  ", "   ", "cue", "cue ", "x", "word at 5f", " word at 5f", "   word at 5f",
                     "\tword at 5f", "  word at", "  word at ", "  word 5f", "  word  at 5f", "  word at  5f",
                     "  word at 5f ", "  at 5f", "   at 5f", "  two words at 5f", "  word at 5f at 5f",
                     "  word AT 5f", "  word at 5f 1/2", "word", "# word"):
            self.check_line(line)

    def test_cue_lines_that_are_none(self):
        for line in ("cue 2", "cue 2 from 0f", "cue 2 from 0f to", "cue 2 from 0f to ", "cue from 0f to 1f",
                     "cue  from 0f to 1f", "cue 2 to 1f from 0f", "cue 2 0f 1f", "cue  2 from 0f to 1f",
                     "cue 2  from 0f to 1f", "cue 2 from  0f to 1f", "cue 2 from 0f  to 1f", "cue 2 from 0f to  1f",
                     "cue 2 from 0f to 1f ", " cue 2 from 0f to 1f", "  cue 2 from 0f to 1f", "Cue 2 from 0f to 1f",
                     "cue 2 From 0f to 1f", "cue 2 from 0f to 1f to 2f", "cue 2 from 0f from 0f to 1f",
                     "cue 2from 0f to 1f", "cue2 from 0f to 1f", "cue 2 from 0fto 1f", "cue 2, from 0f to 1f",
                     "cue -2 from 0f to 1f", "cue +2 from 0f to 1f", "cue 2.0 from 0f to 1f", "cue x from 0f to 1f",
                     "cue 2 from 0f to 1f\r", "cue 2 from 0f to 1f\t", "cue\t2 from 0f to 1f",
                     "cue 2 from\u00a00f to 1f", "cue \u0662 from 0f to 1f", "cue 2 from \u0660f to 1f"):
            self.check_line(line)

    def test_numbers(self):
        for number in ("00", "01", "007", "1234567890", "1" * 5000, "1_0", "1 0", ""):
            self.check_line(f"cue {number} from 0f to 1f")
            self.check_line(f"cue 2 from {number}f to 999999999f")
            self.check_line(f"cue 2 from 0f to {number}f")
            self.check_line(f"cue 2 from 0 {number}/12345678901f to 5f")
            self.check_line(f"  word at {number}f")
        self.assertEqual(read_cues("cue 123456789 from 0f to 123456789f"), [cue_of(123456789, 0, 123456789)])

    def test_times(self):
        for time in ("1s", "0s", "0:00:00:01", "0:00:00:01 1/2", "0 1/2s", "1", "1F", "0 2/4f", "0 1/1f", "0 0/1f",
                     "0 3/2f", "0 1/0f", "1/2f", "0 1/02f", "0  1/2f", "0 1/2 f", "1 f", "-1f", "1.5f", "f"):
            self.check_line(f"cue 2 from {time} to 10f")
            self.check_line(f"cue 2 from 0f to {time}")
            self.check_line(f"  word at {time}", ["cue 2 from 0f to 10f"])

    def test_words(self):
        for word in ("Word", "WORD", "worD", "w0rd", "w-rd", "w'rd", "a b", "", " ", "a" * 21, "a" * 22, "a" * 100,
                     "w\u00f6rd", "\u00e9", "\uff41", "\u0430", "wo\trd", "1", "_"):
            self.check_line(f"  {word} at 5f", ["cue 2 from 0f to 10f"])
        for word in ("a", "z", "a" * 20, "at", "f"):
            self.assertEqual(read_cues(f"cue 2 from 0f to 10f\n  {word} at 5f"), [cue_of(2, 0, 10, f"{word} 5")])

    def test_numbers_rise(self):
        for number in (0, 1, 6, 7):
            self.check_bad(f"cue 1 from 0f to 1f\n  a at 0f\ncue 7 from 0f to 1f\ncue {number} from 0f to 1f\nx", 3)
        self.assertEqual(len(read_cues("cue 1 from 0f to 1f\ncue 7 from 0f to 1f\ncue 8 from 0f to 1f")), 3)
        # As numbers, not as texts.
        self.assertEqual(len(read_cues("cue 9 from 0f to 1f\ncue 10 from 0f to 1f")), 2)
        self.check_bad("cue 10 from 0f to 1f\ncue 9 from 0f to 1f", 1)

    def test_a_cue_begins_ahead_of_its_end(self):
        for begin, end in (("1f", "1f"), ("2f", "1f"), ("0f", "0f"), ("10f", "9f"), ("7 1/3f", "7 1/3f"),
                           ("7 1/2f", "7 1/3f"), ("7 1/3f", "7f"), ("0 1/2f", "0 2/5f")):
            self.check_line(f"cue 2 from {begin} to {end}")
        for begin, end in (("9f", "10f"), ("7f", "7 1/3f"), ("7 1/3f", "7 1/2f"), ("0 2/5f", "0 1/2f")):
            self.assertEqual(len(read_cues(f"cue 2 from {begin} to {end}")), 1)

    def test_a_word_ahead_of_all_cues(self):
        self.check_bad("  word at 5f", 0)
        self.check_bad("  word at 5f\ncue 2 from 0f to 10f", 0)

    def test_the_times_of_words(self):
        head = "cue 1 from 0f to 100f\n  a at 50f\ncue 2 from 5f to 10f"
        for time in ("4f", "0f", "4 999/1000f", "10f", "10 1/2f", "11f", "50f"):
            self.check_bad(f"{head}\n  word at {time}", 3)
        for time in ("5f", "5 1/3f", "9f", "9 999/1000f"):
            self.assertEqual(len(read_cues(f"{head}\n  word at {time}")[1][3]), 1)
        for time in ("6f", "5f", "6 1/3f"):
            self.check_bad(f"{head}\n  a at 5f\n  b at 6 1/2f\n  c at {time}\n  d at 9f", 5)
        for time in ("6 1/2f", "6 2/3f", "9f"):
            self.assertEqual(len(read_cues(f"{head}\n  a at 5f\n  b at 6 1/2f\n  c at {time}")[1][3]), 3)

    def test_line_ends(self):
        for cues, lines in NOTES[1:]:
            text = "\n".join(lines)
            self.check_bad(text + "\n", len(lines))
            self.check_bad("\n" + text, 0)
            self.check_bad(text + "\r\n", len(lines) - 1)
            for sign in ("\r", "\v", "\f", "\u2028", "\x85"):
                self.check_as_by_pattern(text.replace("\n", sign))
                self.check_bad(text + sign, len(lines) - 1)
        for many in range(1, 4):
            self.check_bad("\n" * many, 0)

    def test_lines_put_in_left_out_doubled_and_moved(self):
        put_in = ("", "  a at 5f", "  a at 0f", "cue 0 from 0f to 1f", "cue 5 from 1f to 9f", "x", "  ",
                  "cue 999999999 from 0f to 1f", "cue 11 from 0 1/2f to 3f")
        for cues, lines in NOTES[:5]:
            for at in range(len(lines) + 1):
                for line in put_in:
                    self.check_as_by_pattern("\n".join(lines[:at] + [line] + lines[at:]))
                self.check_as_by_pattern("\n".join(lines[:at] + lines[at + 1:]))
                self.check_as_by_pattern("\n".join(lines[:at + 1] + lines[at:]))
                self.check_as_by_pattern("\n".join(lines[at:] + lines[:at]))

    def test_signs_put_in_left_out_and_replaced(self):
        for cues, lines in NOTES[1:5]:
            text = "\n".join(lines)
            for at in range(len(text) + 1):
                for sign in "09 afAs:/-\n\t\u0663\u00e9":
                    self.check_as_by_pattern(text[:at] + sign + text[at:])
                    self.check_as_by_pattern(text[:at] + sign + text[at + 1:])
                self.check_as_by_pattern(text[:at] + text[at + 1:])
                self.check_as_by_pattern(text[:at])
                self.check_as_by_pattern(text[at:])


if __name__ == "__main__":
    unittest.main()
