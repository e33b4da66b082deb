"""Points 3 and 4: times written and read."""

import re
import unittest
from fractions import Fraction

from reels.errors import BadTime
from reels.times import as_clock, as_frames, as_seconds, read_time
from tests.helper import exact, pair

RATES = (1, 24, 25, 30, 120)
WHOLES = (0, 1, 9, 10, 23, 24, 25, 59, 60, 99, 100, 105, 119, 120, 1439, 1440, 3599, 3600,
          86399, 86400, 90061, 431999, 432000, 999999999)
RESTS = (Fraction(0), Fraction(1, 2), Fraction(1, 3), Fraction(2, 3), Fraction(7, 120),
         Fraction(1, 999999999), Fraction(999999998, 999999999))
TIMES = [whole + rest for whole in WHOLES for rest in RESTS]

NUMBER = "(0|[1-9][0-9]{0,8})"
REST = f"(?: {NUMBER}/{NUMBER})?"
MIXED = re.compile(f"{NUMBER}{REST}([fs])")
CLOCK = re.compile(f"{NUMBER}:([0-9]{{2}}):([0-9]{{2}}):([0-9]{{2}}|[1-9][0-9]{{2,8}}){REST}")


def rest_by_pattern(top, bottom):
    """The rest of two groups; nought without them; None where they are no rest."""
    if top is None:
        return Fraction(0)
    if not 0 < int(top) < int(bottom):
        return None
    rest = Fraction(int(top), int(bottom))
    return rest if rest.numerator == int(top) else None


def time_by_pattern(text, rate):
    """A second reader, by patterns: the time, or None where the text writes none."""
    if found := MIXED.fullmatch(text):
        whole, top, bottom, unit = found.groups()
        rest = rest_by_pattern(top, bottom)
        factor = rate if unit == "s" else 1
        return None if rest is None else (int(whole) + rest) * factor
    if found := CLOCK.fullmatch(text):
        hours, minutes, seconds, frames = (int(group) for group in found.groups()[:4])
        rest = rest_by_pattern(*found.groups()[4:])
        if rest is None or minutes >= 60 or seconds >= 60 or frames >= rate:
            return None
        return (hours * 3600 + minutes * 60 + seconds) * rate + frames + rest
    return None


def longest_number(text):
    return max(len(figures) for figures in re.findall("[0-9]+", text))


class WrittenTest(unittest.TestCase):
    def test_the_documents_examples(self):
        self.assertEqual(as_frames((12, 1)), "12f")
        self.assertEqual(as_frames((22, 3)), "7 1/3f")
        frames = Fraction(2 * 60 + 5) * 24 + 11 + Fraction(1, 2)
        self.assertEqual(as_clock(pair(frames), 24), "0:02:05:11 1/2")

    def test_frames(self):
        rows = [
            ((0, 1), "0f"), ((1, 1), "1f"), ((1, 2), "0 1/2f"), ((10, 1), "10f"),
            ((1000, 999), "1 1/999f"), ((999999999, 1), "999999999f"),
            ((999999998, 999999999), "0 999999998/999999999f"),
        ]
        for time, text in rows:
            self.assertEqual(as_frames(time), text)

    def test_seconds(self):
        rows = [
            ((0, 1), 24, "0s"), ((24, 1), 24, "1s"), ((12, 1), 24, "0 1/2s"),
            ((25, 1), 24, "1 1/24s"), ((1, 2), 25, "0 1/50s"), ((7, 1), 1, "7s"),
            ((7, 3), 1, "2 1/3s"), ((61, 1), 30, "2 1/30s"), ((130, 1), 120, "1 1/12s"),
            ((240, 7), 120, "0 2/7s"), ((100, 1), 25, "4s"),
        ]
        for time, rate, text in rows:
            self.assertEqual(as_seconds(time, rate), text)

    def test_clock(self):
        rows = [
            ((0, 1), 1, "0:00:00:00"), ((0, 1), 120, "0:00:00:00"), ((1, 1), 1, "0:00:01:00"),
            ((1, 2), 1, "0:00:00:00 1/2"), ((59, 1), 1, "0:00:59:00"), ((60, 1), 1, "0:01:00:00"),
            ((3599, 1), 1, "0:59:59:00"), ((3600, 1), 1, "1:00:00:00"), ((23, 1), 24, "0:00:00:23"),
            ((24, 1), 24, "0:00:01:00"), ((9, 1), 120, "0:00:00:09"), ((99, 1), 120, "0:00:00:99"),
            ((100, 1), 120, "0:00:00:100"), ((119, 1), 120, "0:00:00:119"),
            ((120, 1), 120, "0:00:01:00"), ((720019, 2), 25, "4:00:00:09 1/2"),
            ((10 * 3600 * 30, 1), 30, "10:00:00:00"), ((123 * 3600, 1), 1, "123:00:00:00"),
            ((999999999 * 3600, 1), 1, "999999999:00:00:00"),
        ]
        for time, rate, text in rows:
            self.assertEqual(as_clock(time, rate), text)

    def test_all_three_figure_by_figure(self):
        for rate in RATES:
            for time in TIMES:
                self.check_texts(time, rate)

    def check_texts(self, time, rate):
        for told, value in ((as_frames(pair(time)), time),
                            (as_seconds(pair(time), rate), time / rate)):
            whole, rest = divmod(value, 1)
            self.assertEqual(told[:-1], f"{whole} {rest}" if rest else str(whole))
        whole, rest = divmod(time, 1)
        fields = [whole // (3600 * rate), whole // (60 * rate) % 60, whole // rate % 60, whole % rate]
        clock = ":".join([str(fields[0])] + [str(field).rjust(2, "0") for field in fields[1:]])
        self.assertEqual(as_clock(pair(time), rate), f"{clock} {rest}" if rest else clock)

    def test_more_than_nine_figures_are_no_error(self):
        self.assertEqual(as_frames((10**10, 1)), "10000000000f")
        self.assertEqual(as_clock((130, 1), 200), "0:00:00:130")


class ReadTest(unittest.TestCase):
    def test_what_is_written_is_read_back(self):
        # The rates in turn for each time: what was read before must not matter.
        for time in TIMES:
            for rate in RATES:
                texts = (as_frames(pair(time)), as_seconds(pair(time), rate), as_clock(pair(time), rate))
                for text in texts:
                    if longest_number(text) <= 9:
                        with self.subTest(text=text, rate=rate):
                            self.assertEqual(read_time(text, rate), pair(time))

    def test_one_text_at_several_rates(self):
        for rate in RATES + RATES[::-1]:
            self.assertEqual(read_time("7 1/3f", rate), (22, 3))
            self.assertEqual(read_time("7 1/3s", rate), pair(22 * rate, 3))
            self.assertEqual(read_time("1:01:01:00 1/3", rate), pair(3661 * 3 * rate + 1, 3))

    def test_by_hand(self):
        rows = [
            ("0f", 24, (0, 1)), ("0s", 24, (0, 1)), ("0:00:00:00", 24, (0, 1)), ("12f", 1, (12, 1)),
            ("0 1/2f", 24, (1, 2)), ("0 1/2s", 24, (12, 1)), ("0 1/2s", 25, (25, 2)),
            ("0:02:05:11 1/2", 24, (6023, 2)), ("0:00:00:100", 120, (100, 1)),
            ("0:59:59:119", 120, (431999, 1)), ("999999999f", 30, (999999999, 1)),
            ("999999999s", 30, (29999999970, 1)), ("999999999:59:59:29", 30, (10**9 * 108000 - 1, 1)),
            ("0 999999998/999999999f", 24, (999999998, 999999999)),
        ]
        for text, rate, time in rows:
            with self.subTest(text=text, rate=rate):
                self.assertEqual(read_time(text, rate), time)


class RefusedTest(unittest.TestCase):
    def check_refused(self, texts, rate=24):
        for text in texts:
            with self.subTest(text=text, rate=rate):
                with self.assertRaises(BadTime):
                    read_time(text, rate)

    def test_no_time_at_all(self):
        self.check_refused(["", " ", "f", "s", ":", ":::", "/", "12", "12 f", "x", "nought", "1/2", "1/2f",
                            " 1/2f", "ff", "12g", "12F", "12S", "12fs", "12f12f", "12f ", " 12f", "12f\n",
                            "\n12f", "1\n2f", "+1f", "-1f", "1.5f", "1_0f", "1,0f", "1e3f", "0x1f"])

    def test_needless_and_missing_noughts(self):
        self.check_refused(["00f", "01f", "012s", "1 01/2f", "1 1/02f", "00:00:00:00", "01:00:00:00",
                            "0:0:00:00", "0:00:0:00", "0:00:00:0", "0:5:00:00", "0:000:00:00", "0:00:005:00",
                            "0:00:00:000", "0::00:00", ":00:00:00", "0:00:00:"])
        self.check_refused(["0:00:00:005", "0:00:00:099", "0:00:00:0100", "0:00:00:5"], 120)

    def test_rests(self):
        for text in ("7{}f", "7{}s", "0:00:07:07{}"):
            rests = [" 0/1", " 0/3", " 1/1", " 3/3", " 4/3", " 2/4", " 6/9", " 1/0", " 0/0", " 1", " /", " 1/",
                     " /2", " 1/2/3", " 1//2", " -1/2", "1/2", "  1/2", " 1 /2", " 1/ 2", " 1/2 ", " 1/2 1/2",
                     "\t1/2", "\n1/2", "\u00a01/2", " ", " \u00bd", " 999999998/999999998"]
            self.check_refused([text.format(rest) for rest in rests])

    def test_clock_bounds(self):
        self.check_refused(["0:60:00:00", "0:00:60:00", "0:61:00:00", "0:99:99:00", "0:100:00:00",
                            "0:00:00:24", "0:00:00:25", "0:00:00:99", "0:00:00:100", "0:00:00",
                            "0:00:00:00:00", "0:00:00:00f", "0:00:00:00s", "0 1/2:00:00:00"])
        for rate in RATES:
            self.check_refused([f"0:00:00:{rate:02d}", f"0:00:00:{rate + 1:02d} 1/2"], rate)
            self.assertEqual(read_time(f"0:00:00:{rate - 1:02d}", rate), (rate - 1, 1))
        self.assertEqual(read_time("0:59:59:23", 24), (86399, 1))

    def test_figures_that_are_none(self):
        for figure in ("\u0661", "\u00b2", "\uff11", "\u0967", "\U0001d7d9", "\u2460", "I"):
            self.check_refused([figure + "f", "1" + figure + "s", f"1 1/{figure}f", f"1 {figure}/2f",
                                f"{figure}:00:00:00", f"0:0{figure}:00:00", f"0:00:{figure}0:00",
                                f"0:00:00:0{figure}"])

    def test_ten_figures(self):
        nine, ten = "123456789", "1234567890"
        for text in ("{}f", "{}s", "{}:00:00:00", "0 1/{}f", "0 1/{}s", "0:00:00:00 1/{}"):
            self.assertEqual(pair(time_by_pattern(text.format(nine), 24)), read_time(text.format(nine), 24))
            self.check_refused([text.format(ten), text.format("1" * 5000)])
        self.assertEqual(read_time("0 123456788/123456789f", 1), (123456788, 123456789))
        self.check_refused(["0 1234567889/1234567890f", "0 1000000000/1000000001f", "0000000001f"])

    def test_signs_put_in_left_out_and_replaced(self):
        texts = ["0f", "12f", "7 1/3f", "10 5/12s", "0s", "0:02:05:11 1/2", "1:59:00:09", "0:00:00:119",
                 "0 10/21f", "123456789:10:20:12 123456788/123456789"]
        signs = "0159:/ fsF-+.\n\u0663"
        tried = set()
        for text in texts:
            for at in range(len(text) + 1):
                tried.update(text[:at] + sign + text[at:] for sign in signs)
                tried.update(text[:at] + sign + text[at + 1:] for sign in signs)
                tried.add(text[:at] + text[at + 1:])
                tried.update((text[at:] + text[:at], text[:at], text[at:]))
        for rate in RATES:
            for text in sorted(tried):
                self.check_as_by_pattern(text, rate)

    def check_as_by_pattern(self, text, rate):
        expected = time_by_pattern(text, rate)
        with self.subTest(text=text, rate=rate):
            if expected is None:
                with self.assertRaises(BadTime):
                    read_time(text, rate)
            else:
                self.assertEqual(exact(read_time(text, rate)), expected)


if __name__ == "__main__":
    unittest.main()
