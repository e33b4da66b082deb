"""Points 5 and 6: shows; and point 1, as far as it concerns them."""

import copy
import unittest
from fractions import Fraction

from reels.errors import OffReel
from reels.shows import frame_at, length, normal, taken
from tests.helper import SHOWS, edges, exact, few_probes, is_normal, pair, probes, show_of, shown, stretch


class EachShowTest(unittest.TestCase):
    def check_each(self, check):
        """Check each show, made for this test; afterwards it must be as it was."""
        for name, rows in SHOWS.items():
            show = show_of(*rows)
            kept = copy.deepcopy(show)
            with self.subTest(show=name):
                check(show)
                self.assertEqual(show, kept)

    def check_same_shown(self, told, show, since=Fraction(0)):
        """What is told shows just what the show shows from a time on."""
        for time in few_probes(told):
            if time < edges(told)[-1]:
                self.assertEqual(shown(told, time), shown(show, time + since))


class LengthTest(EachShowTest):
    def test_by_hand(self):
        self.assertEqual(length([]), (0, 1))
        self.assertEqual(length(show_of((3, 10))), (7, 1))
        self.assertEqual(length(show_of((3, 10, 2))), (7, 2))
        self.assertEqual(length(show_of((3, 10, "1/2"))), (14, 1))
        self.assertEqual(length(show_of((0, "1/3"), ("1/2", 1, 3), (0, 1, 2))), (1, 1))

    def test_each_show(self):
        def check(show):
            self.assertEqual(length(show), pair(edges(show)[-1]))

        self.check_each(check)


class NormalTest(EachShowTest):
    def test_by_hand(self):
        rows = [
            ((), ()),
            (((0, 5),), ((0, 5),)),
            (((0, 5), (5, 7)), ((0, 7),)),
            (((0, 5), (5, 7, 2)), ((0, 5), (5, 7, 2))),
            (((0, 5), (6, 7)), ((0, 5), (6, 7))),
            (((5, 7), (0, 5)), ((5, 7), (0, 5))),
            (((0, 5), (0, 5)), ((0, 5), (0, 5))),
            (((0, 5), (5, 7), (7, 9), (9, 10, 2), (10, 11, 2), (11, 12)), ((0, 9), (9, 11, 2), (11, 12))),
            (((0, "1/3", "2/3"), ("1/3", 1, "2/3")), ((0, 1, "2/3"),)),
        ]
        for given, told in rows:
            self.assertEqual(normal(show_of(*given)), show_of(*told))

    def test_each_show(self):
        def check(show):
            told = normal(show)
            self.assertIsInstance(told, list)
            self.assertTrue(is_normal(told))
            self.assertEqual(length(told), length(show))
            self.check_same_shown(told, show)
            self.check_same_shown(show, told)
            self.assertEqual(normal(told), told)

        self.check_each(check)

    def test_what_is_told_is_new(self):
        def check(show):
            kept = copy.deepcopy(show)
            told = normal(show)
            expected = copy.deepcopy(told)
            again = normal(told)
            told.append(stretch(1, 2))
            again.clear()
            self.assertEqual(show, kept)
            self.assertEqual(normal(show), expected)

        self.check_each(check)

    def test_what_was_handed_in_may_be_changed_later(self):
        show = show_of((0, 5), (6, 7))
        told = normal(show)
        show.clear()
        self.assertEqual(told, show_of((0, 5), (6, 7)))


class FrameAtTest(EachShowTest):
    def test_by_hand(self):
        show = show_of((10, 14), (0, 3, 2), (14, 15, "1/2"))
        rows = [(0, 10), ("1/3", "31/3"), ("7/2", "27/2"), (4, 0), ("9/2", 1), ("16/3", "8/3"), ("11/2", 14),
                ("13/2", "29/2"), ("749/100", "2999/200")]
        for time, place in rows:
            self.assertEqual(frame_at(show, pair(time)), pair(place))

    def test_each_show(self):
        def check(show):
            for time in probes(show)[:-1]:
                self.assertEqual(frame_at(show, pair(time)), pair(shown(show, time)[0]))

        self.check_each(check)

    def test_not_below_the_length(self):
        def check(show):
            end = edges(show)[-1]
            for time in (end, end + Fraction(1, 10**9), end + 1, end * 2 + 7):
                with self.assertRaises(OffReel):
                    frame_at(show, pair(time))

        self.check_each(check)


class TakenTest(EachShowTest):
    def test_by_hand(self):
        show = show_of((10, 14), (0, 3, 2), (3, 5, 2), (14, 15, "1/2"))
        rows = [
            (0, 0, ()), (4, 4, ()), ("17/2", "17/2", ()),
            (1, 3, ((11, 13),)), (0, 4, ((10, 14),)), (4, "11/2", ((0, 3, 2),)),
            (5, 6, ((2, 4, 2),)), ("7/2", "9/2", (("27/2", 14), (0, 1, 2))),
            (0, "17/2", ((10, 14), (0, 5, 2), (14, 15, "1/2"))),
            ("1/3", "1/2", (("31/3", "21/2"),)),
        ]
        for begin, end, told in rows:
            with self.subTest(begin=begin, end=end):
                self.assertEqual(taken(show, pair(begin), pair(end)), show_of(*told))

    def test_each_show_between_any_two_times(self):
        def check(show):
            for begin in few_probes(show):
                for end in few_probes(show):
                    if begin <= end:
                        self.check_taken(show, begin, end)

        self.check_each(check)

    def check_taken(self, show, begin, end):
        told = taken(show, pair(begin), pair(end))
        self.assertIsInstance(told, list)
        self.assertTrue(is_normal(told))
        self.assertTrue(all(exact(one) < exact(two) for one, two, pace in told))
        self.assertEqual(exact(length(told)), end - begin)
        self.check_same_shown(told, show, begin)

    def test_at_the_edges(self):
        def check(show):
            ends = edges(show)
            for at, one in enumerate(show):
                self.assertEqual(taken(show, pair(ends[at]), pair(ends[at + 1])), [one])

        self.check_each(check)

    def test_both_times_equal(self):
        def check(show):
            for time in probes(show):
                self.assertEqual(taken(show, pair(time), pair(time)), [])

        self.check_each(check)

    def test_from_0_to_the_length(self):
        def check(show):
            self.assertEqual(taken(show, (0, 1), length(show)), normal(show))

        self.check_each(check)

    def test_first_greater_than_second(self):
        def check(show):
            times = few_probes(show)
            for begin in times:
                for end in times:
                    if begin > end:
                        self.check_off(show, begin, end)

        self.check_each(check)

    def test_second_beyond_the_length(self):
        def check(show):
            end = edges(show)[-1]
            for beyond in (end + Fraction(1, 10**9), end + 1, end * 3 + 2):
                for begin in (Fraction(0), end / 2, end, beyond):
                    self.check_off(show, begin, beyond)
                self.check_off(show, beyond, end)
                self.check_off(show, beyond + 1, beyond)

        self.check_each(check)

    def check_off(self, show, begin, end):
        with self.assertRaises(OffReel):
            taken(show, pair(begin), pair(end))

    def test_what_is_told_is_new(self):
        def check(show):
            kept = copy.deepcopy(show)
            told = taken(show, (0, 1), length(show))
            expected = copy.deepcopy(told)
            told.append(stretch(1, 2))
            told.reverse()
            self.assertEqual(show, kept)
            self.assertEqual(taken(show, (0, 1), length(show)), expected)

        self.check_each(check)


if __name__ == "__main__":
    unittest.main()
