"""Point 7: deeds, undone and done again; and point 1, as far as it concerns them."""

import copy
import random
import unittest
from fractions import Fraction

from reels.errors import NoDeed, OffReel, ReelError
from reels.reel import Reel
from reels.shows import normal, taken
from tests.helper import (SHOWS, bare, cut, few_probes, is_normal, length_of, pair, show_of, shown, stretch, tidy,
                          told_as)

FACTORS = ("1", "2", "1/2", "3", "5/7")
OTHERS = ((), ((50, 52),), ((3, 4, "1/2"),), ((5, 7), (7, 9, 2)), ((1, 2), (2, 3)), ((8, 9), (0, "1/3", 3)))


class Model:
    """A second reel: every show that there was, and where among them it stands now."""

    def __init__(self, show):
        self.shows = [tidy(bare(show))]
        self.at = 0

    def rows(self):
        return self.shows[self.at]

    def length(self):
        return length_of(told_as(self.rows()))

    def done(self, begin, end, between):
        rows = self.rows()
        new = cut(rows, Fraction(0), begin) + between + cut(rows, end, self.length())
        self.shows[self.at + 1:] = [tidy(new)]
        self.at += 1

    def out(self, begin, end):
        told = tidy(cut(self.rows(), begin, end))
        self.done(begin, end, [])
        return told_as(told)

    def into(self, time, other):
        self.done(time, time, bare(other))

    def faster(self, begin, end, factor):
        self.done(begin, end, [(one, two, pace * factor) for one, two, pace in cut(self.rows(), begin, end)])

    def show(self):
        return told_as(self.rows())


class ReelTest(unittest.TestCase):
    def check_show(self, reel, expected):
        told = reel.show()
        self.assertIsInstance(told, list)
        self.assertTrue(is_normal(told))
        self.assertEqual(told, expected)

    def check_refused(self, error, deed, *arguments):
        with self.assertRaises(error) as caught:
            deed(*arguments)
        self.assertIs(type(caught.exception), error)


class DeedsTest(ReelTest):
    def test_the_show_is_told_as_a_normal_one(self):
        for name, rows in SHOWS.items():
            with self.subTest(show=name):
                self.check_show(Reel(show_of(*rows)), normal(show_of(*rows)))

    def test_out_by_hand(self):
        rows = [
            ((0, 10),), (2, 5), ((2, 5),), ((0, 2), (5, 10)),
            ((0, 10),), (0, 10), ((0, 10),), (),
            ((0, 10),), (0, 3), ((0, 3),), ((3, 10),),
            ((0, 10),), (7, 10), ((7, 10),), ((0, 7),),
            ((0, 10),), (4, 4), (), ((0, 10),),
            ((0, 10, 2),), (1, 2), ((2, 4, 2),), ((0, 2, 2), (4, 10, 2)),
            ((0, 5), (8, 9), (5, 7)), (5, 6), ((8, 9),), ((0, 7),),
            ((0, 5), (5, 7, 2), (7, 9)), (5, 6), ((5, 7, 2),), ((0, 5), (7, 9)),
            ((0, 4, "1/2"), (9, 12)), ("23/3", "26/3"), (("23/6", 4, "1/2"), (9, "29/3")),
            ((0, "23/6", "1/2"), ("29/3", 12)),
            (), (0, 0), (), (),
        ]
        for show, (begin, end), told, left in zip(rows[::4], rows[1::4], rows[2::4], rows[3::4]):
            with self.subTest(show=show, begin=begin, end=end):
                reel = Reel(show_of(*show))
                self.assertEqual(reel.out(pair(begin), pair(end)), show_of(*told))
                self.check_show(reel, show_of(*left))

    def test_into_by_hand(self):
        rows = [
            ((0, 10),), 4, ((20, 22),), ((0, 4), (20, 22), (4, 10)),
            ((0, 10),), 0, ((20, 22),), ((20, 22), (0, 10)),
            ((0, 10),), 10, ((20, 22),), ((0, 10), (20, 22)),
            ((0, 10),), 10, ((10, 12),), ((0, 12),),
            ((3, 10),), 0, ((1, 3),), ((1, 10),),
            ((0, 10),), 4, (), ((0, 10),),
            ((0, 10),), 4, ((4, 6),), ((0, 6), (4, 10)),
            ((0, 10),), 4, ((4, 6, 2), (8, 9)), ((0, 4), (4, 6, 2), (8, 9), (4, 10)),
            ((0, 2), (4, 6)), 2, ((2, 3), (3, 4)), ((0, 6),),
            ((0, 10, 3),), "1/2", ((1, 2), (2, 3, 2)), ((0, "3/2", 3), (1, 2), (2, 3, 2), ("3/2", 10, 3)),
            (), 0, (), (),
            (), 0, ((1, 2), (2, 5)), ((1, 5),),
        ]
        for show, time, other, left in zip(rows[::4], rows[1::4], rows[2::4], rows[3::4]):
            with self.subTest(show=show, time=time, other=other):
                reel = Reel(show_of(*show))
                self.assertIsNone(reel.into(pair(time), show_of(*other)))
                self.check_show(reel, show_of(*left))

    def test_faster_by_hand(self):
        rows = [
            ((0, 10),), (2, 6, 2), ((0, 2), (2, 6, 2), (6, 10)),
            ((0, 10),), (0, 10, 2), ((0, 10, 2),),
            ((0, 10),), (2, 6, 1), ((0, 10),),
            ((0, 10),), (3, 3, 5), ((0, 10),),
            ((0, 10, 2),), (1, 3, "1/2"), ((0, 2, 2), (2, 6), (6, 10, 2)),
            ((0, 4), (4, 8, 2), (8, 9)), (4, 6, "1/2"), ((0, 9),),
            ((0, 4), (4, 8, 2), (8, 9)), (4, 5, "1/2"), ((0, 6), (6, 8, 2), (8, 9)),
            ((0, 4), (9, 12, 3)), (3, "9/2", "2/3"), ((0, 3), (3, 4, "2/3"), (9, "21/2", 2), ("21/2", 12, 3)),
            (), (0, 0, 7), (),
        ]
        for show, (begin, end, factor), left in zip(rows[::3], rows[1::3], rows[2::3]):
            with self.subTest(show=show, begin=begin, end=end, factor=factor):
                reel = Reel(show_of(*show))
                self.assertIsNone(reel.faster(pair(begin), pair(end), pair(factor)))
                self.check_show(reel, show_of(*left))

    def test_each_show_between_any_two_times(self):
        for name, rows in SHOWS.items():
            show = show_of(*rows)
            # Long shows at fewer times, as each check goes through the whole show often.
            times = few_probes(show)[::1 if len(show) < 10 else 6] + [length_of(show)]
            for at, begin in enumerate(times):
                for end in times[at:]:
                    with self.subTest(show=name, begin=begin, end=end):
                        self.check_each_deed(show, begin, end)
            self.assertEqual(show, show_of(*rows))

    def check_each_deed(self, show, begin, end):
        reel, model = Reel(show), Model(show)
        told = reel.out(pair(begin), pair(end))
        self.assertEqual(told, taken(show, pair(begin), pair(end)))
        self.assertEqual(told, model.out(begin, end))
        self.check_show(reel, model.show())
        self.check_out_shown(reel.show(), show, begin, end)
        for factor in FACTORS[1:3]:
            reel, model = Reel(show), Model(show)
            reel.faster(pair(begin), pair(end), pair(factor))
            model.faster(begin, end, Fraction(factor))
            self.check_show(reel, model.show())
            self.check_faster_shown(reel.show(), show, begin, end, Fraction(factor))
        for other in OTHERS[:4]:
            reel, model = Reel(show), Model(show)
            reel.into(pair(begin), show_of(*other))
            model.into(begin, show_of(*other))
            self.check_show(reel, model.show())
            self.check_into_shown(reel.show(), show, begin, show_of(*other))

    def check_out_shown(self, told, show, begin, end):
        self.assertEqual(length_of(told), length_of(show) - (end - begin))
        for time in few_probes(told):
            self.assertEqual(shown(told, time), shown(show, time if time < begin else time + end - begin))

    def check_faster_shown(self, told, show, begin, end, factor):
        until = begin + (end - begin) / factor
        self.assertEqual(length_of(told), length_of(show) - end + until)
        for time in few_probes(told):
            if begin <= time < until:
                place, pace = shown(show, begin + (time - begin) * factor)
                self.assertEqual(shown(told, time), (place, pace * factor))
            else:
                self.assertEqual(shown(told, time), shown(show, time if time < begin else time - until + end))

    def check_into_shown(self, told, show, at, other):
        until = at + length_of(other)
        self.assertEqual(length_of(told), length_of(show) + length_of(other))
        for time in few_probes(told):
            if at <= time < until:
                self.assertEqual(shown(told, time), shown(other, time - at))
            else:
                self.assertEqual(shown(told, time), shown(show, time if time < at else time - until + at))


class RefusedTest(ReelTest):
    def check_changes_nothing(self, deed, *arguments):
        """One deed stands and one is undone; a refused one leaves both."""
        reel = Reel(show_of((0, 10), (20, 30, 2)))
        reel.into((1, 1), show_of((40, 42)))
        first = reel.show()
        reel.out((2, 1), (3, 1))
        second = reel.show()
        reel.back()
        self.check_refused(OffReel, getattr(reel, deed), *arguments)
        self.check_show(reel, first)
        reel.again()
        self.check_show(reel, second)
        self.check_refused(NoDeed, reel.again)
        reel.back()
        reel.back()
        self.check_show(reel, show_of((0, 10), (20, 30, 2)))
        self.check_refused(NoDeed, reel.back)

    def test_times_that_taken_refuses(self):
        # The length is 17 while these are tried.
        rows = [(3, 2), (17, 16), ("7/2", "10/3"), (0, 18), (17, 18), (18, 18), (18, 17), (0, "170000001/10000000"),
                (18, 2)]
        for begin, end in rows:
            with self.subTest(begin=begin, end=end):
                self.check_changes_nothing("out", pair(begin), pair(end))
                self.check_changes_nothing("faster", pair(begin), pair(end), (2, 1))
                self.check_changes_nothing("faster", pair(begin), pair(end), (1, 1))

    def test_into_beyond_the_length(self):
        for time in ("170000001/10000000", 18, 1000):
            for other in OTHERS:
                with self.subTest(time=time, other=other):
                    self.check_changes_nothing("into", pair(time), show_of(*other))

    def test_times_at_the_length_are_not_refused(self):
        for name, rows in SHOWS.items():
            with self.subTest(show=name):
                show = show_of(*rows)
                end = pair(length_of(show))
                reel = Reel(show)
                self.assertEqual(reel.out(end, end), [])
                reel.faster(end, end, (2, 1))
                self.check_show(reel, normal(show))
                reel.into(end, show_of((100, 101, 7)))
                self.check_show(reel, normal(show) + show_of((100, 101, 7)))
                for deed in range(3):
                    reel.back()
                self.check_refused(NoDeed, reel.back)

    def test_a_show_of_none(self):
        reel = Reel([])
        self.check_refused(OffReel, reel.out, (0, 1), (1, 10))
        self.check_refused(OffReel, reel.faster, (0, 1), (1, 10), (2, 1))
        self.check_refused(OffReel, reel.into, (1, 10), [])
        self.check_refused(NoDeed, reel.back)
        self.check_refused(NoDeed, reel.again)
        self.check_show(reel, [])

    def test_the_kind_of_a_refusal(self):
        reel = Reel(show_of((0, 1)))
        for deed in (reel.back, reel.again):
            for kind in (ReelError, ValueError):
                with self.assertRaises(kind):
                    deed()
            with self.assertRaises(NoDeed) as caught:
                deed()
            self.assertNotIsInstance(caught.exception, OffReel)


class BackAndAgainTest(ReelTest):
    def test_each_deed_undone_and_done_again(self):
        show = show_of((0, 10), (20, 30, 2))
        deeds = [lambda reel: reel.out((1, 1), (2, 1)), lambda reel: reel.into((3, 1), show_of((5, 6))),
                 lambda reel: reel.faster((0, 1), (5, 1), (1, 2)), lambda reel: reel.out((4, 1), (4, 1)),
                 lambda reel: reel.into((3, 1), []), lambda reel: reel.faster((0, 1), (5, 1), (1, 1))]
        reel = Reel(show)
        shows = [reel.show()]
        for deed in deeds:
            deed(reel)
            shows.append(reel.show())
        for time in range(3):
            for expected in shows[-2::-1]:
                self.assertIsNone(reel.back())
                self.check_show(reel, expected)
            self.check_refused(NoDeed, reel.back)
            for expected in shows[1:]:
                self.assertIsNone(reel.again())
                self.check_show(reel, expected)
            self.check_refused(NoDeed, reel.again)
        # The last three left the show as it was, and were deeds all the same.
        self.assertEqual(shows[3:], [shows[3]] * 4)

    def test_nothing_is_done_again_behind_a_further_deed(self):
        for further in (lambda reel: reel.out((0, 1), (1, 1)), lambda reel: reel.out((1, 1), (1, 1)),
                        lambda reel: reel.into((0, 1), []), lambda reel: reel.faster((0, 1), (1, 1), (1, 1))):
            reel = Reel(show_of((0, 10)))
            reel.out((2, 1), (3, 1))
            reel.out((5, 1), (6, 1))
            reel.back()
            reel.back()
            further(reel)
            stands = reel.show()
            self.check_refused(NoDeed, reel.again)
            self.check_show(reel, stands)
            reel.back()
            self.check_show(reel, show_of((0, 10)))
            self.check_refused(NoDeed, reel.back)
            reel.again()
            self.check_show(reel, stands)

    def test_a_further_deed_behind_some_done_again(self):
        reel = Reel(show_of((0, 10)))
        for place in (8, 6, 4, 2):
            reel.out(pair(place), pair(place + 1))
        reel.back()
        reel.back()
        reel.back()
        reel.again()
        self.check_show(reel, show_of((0, 6), (7, 8), (9, 10)))
        reel.out((0, 1), (1, 1))
        self.check_refused(NoDeed, reel.again)
        reel.back()
        reel.back()
        self.check_show(reel, show_of((0, 8), (9, 10)))
        reel.again()
        reel.again()
        self.check_show(reel, show_of((1, 6), (7, 8), (9, 10)))
        self.check_refused(NoDeed, reel.again)

    def test_many_deeds_of_all_kinds(self):
        for seed in range(60):
            with self.subTest(seed=seed):
                self.check_many(random.Random(seed))

    def check_many(self, chance):
        rows = SHOWS[chance.choice(sorted(SHOWS)[2:])]
        reel, model = Reel(show_of(*rows)), Model(show_of(*rows))
        for deed in range(40):
            self.do_one(chance, reel, model)
            self.check_show(reel, model.show())
        while model.at > 0:
            reel.back()
            model.at -= 1
            self.check_show(reel, model.show())
        self.check_refused(NoDeed, reel.back)
        self.check_show(reel, normal(show_of(*rows)))

    def do_one(self, chance, reel, model):
        kind = chance.choice(["out", "into", "faster", "back", "back", "again", "again"])
        end = model.length()
        # Now and then beyond the end, or in the wrong order.
        one, two = sorted(end * chance.randint(0, 12) / 12 for time in range(2))
        if chance.random() < 0.1:
            one, two = two, one + chance.randint(0, 2)
        if kind == "back" and model.at == 0 or kind == "again" and model.at + 1 == len(model.shows):
            self.check_refused(NoDeed, getattr(reel, kind))
        elif kind in ("back", "again"):
            getattr(reel, kind)()
            model.at += 1 if kind == "again" else -1
        elif kind == "into":
            self.put_in(chance, reel, model, two)
        else:
            self.cut_one(chance, reel, model, kind, (one, two))

    def put_in(self, chance, reel, model, time):
        other = show_of(*chance.choice(OTHERS))
        if time > model.length():
            self.check_refused(OffReel, reel.into, pair(time), other)
        else:
            reel.into(pair(time), other)
            model.into(time, other)
        other.clear()

    def cut_one(self, chance, reel, model, kind, times):
        begin, end = times
        factor = Fraction(chance.choice(FACTORS))
        arguments = [pair(begin), pair(end)] + ([pair(factor)] if kind == "faster" else [])
        if not begin <= end <= model.length():
            self.check_refused(OffReel, getattr(reel, kind), *arguments)
        elif kind == "out":
            told = reel.out(*arguments)
            self.assertEqual(told, model.out(begin, end))
            told.clear()
        else:
            reel.faster(*arguments)
            model.faster(begin, end, factor)


class HandedInAndToldTest(ReelTest):
    def test_what_was_handed_in_may_be_changed_later(self):
        show, other = show_of((0, 5), (6, 7)), show_of((1, 2), (2, 4, 3))
        reel = Reel(show)
        show.clear()
        self.check_show(reel, show_of((0, 5), (6, 7)))
        reel.into((5, 1), other)
        self.assertEqual(other, show_of((1, 2), (2, 4, 3)))
        other.append(stretch(9, 10))
        expected = show_of((0, 5), (1, 2), (2, 4, 3), (6, 7))
        self.check_show(reel, expected)
        reel.back()
        other.clear()
        reel.again()
        self.check_show(reel, expected)

    def test_what_is_told_is_new(self):
        reel = Reel(show_of((0, 5), (6, 7)))
        reel.show().clear()
        told = reel.out((0, 1), (6, 1))
        self.assertEqual(told, show_of((0, 5), (6, 7)))
        told.clear()
        reel.show().append(stretch(9, 10))
        self.check_show(reel, [])
        reel.back()
        reel.show().reverse()
        self.check_show(reel, show_of((0, 5), (6, 7)))
        reel.again()
        self.check_show(reel, [])

    def test_two_reels_of_one_show(self):
        show = show_of((0, 5), (6, 7))
        kept = copy.deepcopy(show)
        one, two = Reel(show), Reel(show)
        one.out((0, 1), (1, 1))
        self.check_refused(NoDeed, two.back)
        self.check_show(two, kept)
        self.assertEqual(show, kept)


if __name__ == "__main__":
    unittest.main()
