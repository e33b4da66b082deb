"""Points 8 and 9: parts of cues, and listings; and point 1, as far as it concerns them."""

import copy
import random
import unittest
from fractions import Fraction

from reels.cues import listing, parts
from reels.reel import Reel
from tests.helper import SHOWS, edges, exact, pair, show_of, shown


def cue_of(number, begin, end, *words):
    """A cue of numbers that Fraction takes; words as "word time"."""
    said = [tuple(word.split()) for word in words]
    return (number, pair(begin), pair(end), [(word, pair(time)) for word, time in said])


def part_of(begin, end, *words):
    return (pair(begin), pair(end), list(words))


def row_of(begin, end, number, *words):
    return (pair(begin), pair(end), number, list(words))


def moments(show, cue):
    """The times at which something may begin or end: edges, and where the cue's places are shown."""
    places = [exact(cue[1]), exact(cue[2])]
    times = set(edges(show))
    for start, (begin, end, pace) in zip(edges(show), show):
        times.update(start + (place - exact(begin)) / exact(pace) for place in places
                     if exact(begin) <= place < exact(end))
    return sorted(times)


def parts_by_moments(show, cue):
    """A second way to the parts: from moment to moment, each by what is shown in its middle."""
    spans = []
    for begin, end in zip(moments(show, cue), moments(show, cue)[1:]):
        place, pace = shown(show, (begin + end) / 2)
        first, last = place - pace * (end - begin) / 2, place + pace * (end - begin) / 2
        if exact(cue[1]) <= place < exact(cue[2]):
            spans.append([begin, end, first, last])
    for at in range(len(spans) - 1, 0, -1):
        one, two = spans[at - 1], spans[at]
        if one[1] == two[0] and one[3] == two[2]:
            spans[at - 1:at + 1] = [[one[0], two[1], one[2], two[3]]]
    return [(pair(begin), pair(end), [word for word, time in cue[3] if first <= exact(time) < last])
            for begin, end, first, last in spans]


def random_cue(chance, number):
    begin = Fraction(chance.randint(0, 60), chance.choice((1, 2, 3)))
    end = begin + Fraction(chance.randint(1, 40), chance.choice((1, 2, 3)))
    times = sorted(begin + (end - begin) * chance.randint(0, 11) / 12 for word in range(chance.randint(0, 6)))
    words = [("abcdefgh"[at:at + 3], pair(time)) for at, time in enumerate(times)]
    return (number, pair(begin), pair(end), words)


CUES = [
    cue_of(0, 0, 100, "a 0", "b 1/3", "c 4", "d 4", "e 5", "f 10", "g 25", "h 99"),
    cue_of(1, 0, 1), cue_of(2, 3, 5, "a 3", "b 4"), cue_of(3, 4, 6, "a 4", "b 4", "c 5", "d 35/6"),
    cue_of(4, "7/2", "9/2", "a 4"), cue_of(5, 9, 11, "a 9", "b 10", "c 10", "d 21/2"),
    cue_of(6, 10, 12, "a 10"), cue_of(7, 8, 10, "a 8", "b 19/2"), cue_of(8, 24, 27, "a 24", "b 25", "c 51/2"),
    cue_of(9, 200, 300, "a 200"), cue_of(10, "1/3", "9/4", "a 1/3", "b 5/7", "c 1"), cue_of(11, 2, 7, "a 5", "b 6"),
]


class PartsTest(unittest.TestCase):
    def check_parts(self, show, cue, expected):
        kept = copy.deepcopy((show, cue))
        told = parts(show, cue)
        self.assertEqual(told, expected)
        self.assertIsInstance(told, list)
        self.assertTrue(all(isinstance(part, tuple) and isinstance(part[2], list) for part in told))
        self.assertEqual((show, cue), kept)

    def check_by_hand(self, show, rows):
        for cue, expected in rows:
            with self.subTest(show=show, cue=cue):
                self.check_parts(show_of(*show), cue, expected)

    def test_over_one_stretch(self):
        # Frames 10 to 20 stand from 0 to 10.
        self.check_by_hand([(10, 20)], [
            (cue_of(0, 0, 5, "a 1"), []),
            (cue_of(0, 0, 10, "a 1"), []),
            (cue_of(0, 20, 25, "a 20"), []),
            (cue_of(0, 30, 35, "a 30"), []),
            (cue_of(0, 0, 11, "a 1", "b 10", "c 21/2"), [part_of(0, 1, "b", "c")]),
            (cue_of(0, 19, 25, "a 19", "b 20"), [part_of(9, 10, "a")]),
            (cue_of(0, 10, 20, "a 10", "b 19"), [part_of(0, 10, "a", "b")]),
            (cue_of(0, 5, 25, "a 5", "b 10", "c 20"), [part_of(0, 10, "b")]),
            (cue_of(0, 12, 15), [part_of(2, 5)]),
            (cue_of(0, "37/3", "46/3", "a 37/3", "b 13", "b 13"), [part_of("7/3", "16/3", "a", "b", "b")]),
        ])

    def test_at_other_paces(self):
        self.check_by_hand([(10, 20, 2)], [(cue_of(0, 12, 15, "a 13"), [part_of(1, "5/2", "a")])])
        self.check_by_hand([(10, 20, "1/2")], [(cue_of(0, 12, 15, "a 13"), [part_of(4, 10, "a")])])
        self.check_by_hand([(0, 3), (10, 20, "2/3")], [(cue_of(0, 12, 15, "a 14"), [part_of(6, "21/2", "a")])])

    def test_over_no_show(self):
        self.check_by_hand([], [(cue, []) for cue in CUES])

    def test_stretches_that_go_on(self):
        cue = cue_of(0, 5, 15, "a 5", "b 10", "c 10", "d 14")
        self.check_by_hand([(0, 10), (10, 20)], [(cue, [part_of(5, 15, "a", "b", "c", "d")])])
        self.check_by_hand([(0, 10), (10, 20, 2)], [(cue, [part_of(5, "25/2", "a", "b", "c", "d")])])
        self.check_by_hand([(0, 8), (8, 10, 2), (10, 12), (12, 13, "1/2"), (13, 30)],
                           [(cue, [part_of(5, 15, "a", "b", "c", "d")])])

    def test_stretches_that_do_not_go_on(self):
        cue = cue_of(0, 5, 15, "a 5", "b 10", "c 10", "d 14")
        # They follow in the show, but not on the reel.
        self.check_by_hand([(0, 10), (11, 20)], [(cue, [part_of(5, 10, "a"), part_of(10, 14, "d")])])
        self.check_by_hand([(10, 20), (0, 10)], [(cue, [part_of(0, 5, "b", "c", "d"), part_of(15, 20, "a")])])
        # They follow on the reel, but something else stands between them in the show.
        self.check_by_hand([(0, 10), (30, 31), (10, 20)],
                           [(cue, [part_of(5, 10, "a"), part_of(11, 16, "b", "c", "d")])])
        # The cue ends, or begins, just where they follow.
        self.check_by_hand([(0, 10), (10, 20)], [(cue_of(0, 5, 10, "a 5"), [part_of(5, 10, "a")]),
                                                 (cue_of(0, 10, 12, "a 10"), [part_of(10, 12, "a")])])

    def test_the_same_frames_twice(self):
        cue = cue_of(0, 2, 4, "a 2", "b 3")
        self.check_by_hand([(2, 4), (2, 4)], [(cue, [part_of(0, 2, "a", "b"), part_of(2, 4, "a", "b")])])
        self.check_by_hand([(0, 4), (3, 5), (0, 3), (3, 8, 2)], [
            (cue, [part_of(2, 4, "a", "b"), part_of(4, 5, "b"), part_of(8, "19/2", "a", "b")])])

    def test_each_show_and_cue(self):
        for name, rows in SHOWS.items():
            for cue in CUES:
                with self.subTest(show=name, cue=cue[0]):
                    self.check_as_by_moments(show_of(*rows), cue)

    def test_many_shows_and_cues(self):
        for seed in range(300):
            chance = random.Random(seed)
            show = [(a, a + chance.randint(1, 9), chance.choice((1, 1, 2, "1/2", "3/7")))
                    for a in (chance.randint(0, 40) for stretch in range(chance.randint(0, 6)))]
            # Every other time one that goes on behind one of them.
            if show and seed % 2:
                at = chance.randrange(len(show))
                show.insert(at + 1, (show[at][1], show[at][1] + 5, chance.choice((1, 2))))
            with self.subTest(seed=seed):
                self.check_as_by_moments(show_of(*show), random_cue(chance, seed))

    def check_as_by_moments(self, show, cue):
        self.check_parts(show, cue, parts_by_moments(show, cue))
        told = [(exact(begin), exact(end)) for begin, end, words in parts(show, cue)]
        self.assertTrue(all(begin < end for begin, end in told))
        self.assertTrue(all(one[1] <= two[0] for one, two in zip(told, told[1:])))
        shared = [(min(exact(end), exact(cue[2])) - max(exact(begin), exact(cue[1])), exact(pace))
                  for begin, end, pace in show]
        self.assertEqual(sum(end - begin for begin, end in told), sum(long / pace for long, pace in shared if long > 0))

    def test_what_is_told_is_new(self):
        show, cue = show_of((0, 10), (4, 8)), cue_of(3, 4, 8, "a 4", "b 7")
        expected = [part_of(4, 8, "a", "b"), part_of(10, 14, "a", "b")]
        told = parts(show, cue)
        told[0][2].clear()
        self.assertEqual(told[1:], expected[1:])
        told.clear()
        self.check_parts(show, cue, expected)
        told = parts(show, cue)
        show.clear()
        cue[3].clear()
        self.assertEqual(told, expected)


class ListingTest(unittest.TestCase):
    def check_listing(self, show, cues, expected):
        kept = copy.deepcopy((show, cues))
        told = listing(show, cues)
        self.assertEqual(told, expected)
        self.assertIsInstance(told, list)
        self.assertTrue(all(isinstance(row, tuple) and isinstance(row[3], list) for row in told))
        self.assertEqual((show, cues), kept)

    def test_by_hand(self):
        show = show_of((10, 20), (0, 5), (10, 20, 2))
        self.check_listing(show, [], [])
        self.check_listing([], [cue_of(0, 0, 5)], [])
        self.check_listing(show, [cue_of(7, 30, 40, "a 30")], [])
        self.check_listing(show, [cue_of(7, 12, 14, "a 12", "b 13")],
                           [row_of(2, 4, 7, "a", "b"), row_of(16, 17, 7, "a", "b")])
        self.check_listing(show, [cue_of(1, 14, 16, "a 15"), cue_of(4, 4, 12, "b 4", "c 11"), cue_of(9, 0, 1)], [
            row_of(0, 2, 4, "c"), row_of(4, 6, 1, "a"), row_of(10, 11, 9), row_of(14, 15, 4, "b"),
            row_of(15, 16, 4, "c"), row_of(17, 18, 1, "a")])

    def test_rows_that_begin_together_are_told_by_numbers(self):
        self.check_listing(show_of((0, 10)), [cue_of(2, 0, 9), cue_of(3, 3, 8, "a 3"), cue_of(10, 3, 4), cue_of(12, 0, 1)], [
            row_of(0, 9, 2), row_of(0, 1, 12), row_of(3, 8, 3, "a"), row_of(3, 4, 10)])

    def test_begins_are_compared_as_fractions(self):
        begins = ["1/2", "1/3", "2/3", "3/2", "5/7", "10/9", "0", "7", "13/2"]
        cues = [cue_of(number, begin, 20) for number, begin in enumerate(begins)]
        told = listing(show_of((0, 10)), cues)
        self.assertEqual([row[0] for row in told], [pair(begin) for begin in sorted(begins, key=Fraction)])

    def test_each_show(self):
        for name, rows in SHOWS.items():
            with self.subTest(show=name):
                show = show_of(*rows)
                self.check_listing(show, CUES, self.listed(show, CUES))

    def listed(self, show, cues):
        rows = [(begin, end, cue[0], words) for cue in cues for begin, end, words in parts_by_moments(show, cue)]
        return sorted(rows, key=lambda row: (exact(row[0]), row[2], exact(row[1])))

    def test_behind_each_deed_and_undoing(self):
        reel = Reel(show_of((0, 12), (20, 30, 2)))
        cues = CUES[:8]
        first = listing(reel.show(), cues)
        deeds = [lambda: reel.out((3, 1), (9, 2)), lambda: reel.into((2, 1), show_of((4, 6), (6, 12, 3))),
                 lambda: reel.faster((1, 1), (7, 1), (1, 2)), lambda: reel.back(), lambda: reel.again(),
                 lambda: reel.into((0, 1), []), lambda: reel.faster((0, 1), (2, 1), (5, 3)), lambda: reel.back()]
        for deed in deeds:
            deed()
            self.check_listing(reel.show(), cues, self.listed(reel.show(), cues))
        self.assertNotEqual(listing(reel.show(), cues), first)
        for deed in range(4):
            reel.back()
            self.check_listing(reel.show(), cues, self.listed(reel.show(), cues))
        self.check_listing(reel.show(), cues, first)

    def test_what_is_told_is_new(self):
        show, cues = show_of((0, 10)), [cue_of(0, 1, 5, "a 2"), cue_of(1, 1, 6)]
        expected = [row_of(1, 5, 0, "a"), row_of(1, 6, 1)]
        told = listing(show, cues)
        told[0][3].append("x")
        told.clear()
        self.check_listing(show, cues, expected)
        told = listing(show, cues)
        cues[0][3].clear()
        cues.clear()
        self.assertEqual(told, expected)


if __name__ == "__main__":
    unittest.main()
