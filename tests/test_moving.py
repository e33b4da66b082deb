"""Points 10 and 11: rows moved, and the prices that show it; and point 1, as far as it concerns them."""

import copy
import itertools
import random
import unittest
from fractions import Fraction

from reels.cues import listing
from reels.errors import ReelError, TooTight
from reels.moving import moved
from tests.helper import exact, pair, show_of

WORDS = ("a", "be", "sea", "deed", "e" * 20)


def row(begin, end, *words):
    return (pair(begin), pair(end), 0, list(words))


def rule_of(each, gap, least, first=1, second=1):
    return (pair(each), pair(gap), pair(least), first, second)


def wished(rows):
    """The begins and ends that were handed in, row by row."""
    return [exact(time) for row in rows for time in row[:2]]


def weights_of(rows, rule):
    return [rule[3], rule[4]] * len(rows)


def asked(rows, rule):
    """The least distances of point 11: a row's length, a gap, by turns."""
    each, gap, least = (exact(fraction) for fraction in rule[:3])
    found = []
    for row in rows:
        found += [max(least, each * len("".join(row[3]))), gap]
    return found[:-1]


def cost_of(times, rows, rule):
    return sum(weight * abs(time - wish)
               for weight, time, wish in zip(weights_of(rows, rule), times, wished(rows)))


def keeps(times, rows, rule, end):
    apart = [two - one for one, two in zip(times, times[1:])]
    return times[0] >= 0 and times[-1] <= end and all(
        distance >= least for distance, least in zip(apart, asked(rows, rule)))


def least_cost(rows, rule, end):
    """A second way to the least cost: by every level that can be best; None where nothing keeps the rule."""
    offsets = [Fraction(0), *itertools.accumulate(asked(rows, rule))]
    room = end - offsets[-1]
    if room < 0:
        return None
    wishes = [wish - offset for wish, offset in zip(wished(rows), offsets)]
    levels = sorted({min(max(level, 0), room) for level in wishes})
    best = [0] * len(levels)
    for wish, weight in zip(wishes, weights_of(rows, rule)):
        best = list(itertools.accumulate(best, min))
        best = [cost + weight * abs(level - wish) for cost, level in zip(best, levels)]
    return min(best)


class MovedTest(unittest.TestCase):
    def check_moved(self, rows, rule, end):
        """Check all that points 10 and 11 say but the least cost; tell times and cost."""
        kept = copy.deepcopy((rows, rule, end))
        told = moved(rows, rule, pair(end))
        self.assertEqual((rows, rule, end), kept)
        self.assertIsInstance(told, tuple)
        pairs, cost, prices = told
        self.assertEqual([type(part) for part in told], [list, tuple, list])
        self.assertEqual([(type(each), len(each)) for each in pairs], [(tuple, 2)] * len(rows))
        times = [exact(time) for each in pairs for time in each]
        self.assertEqual([pair(time) for time in times], [time for each in pairs for time in each])
        self.assertTrue(keeps(times, rows, rule, end))
        self.assertEqual(cost, pair(cost_of(times, rows, rule)))
        self.check_prices(prices, exact(cost), rows, rule, end)
        self.assertEqual(moved(rows, rule, pair(end)), told)
        return times, exact(cost)

    def check_prices(self, prices, cost, rows, rule, end):
        self.assertEqual([type(price) for price in prices], [int] * (2 * len(rows) + 1))
        self.assertGreaterEqual(min(prices), 0)
        steps = [two - one for one, two in zip(prices, prices[1:])]
        self.assertTrue(all(abs(step) <= weight for step, weight in zip(steps, weights_of(rows, rule))))
        total = sum(step * wish for step, wish in zip(steps, wished(rows)))
        total += sum(price * distance for price, distance in zip(prices[1:], asked(rows, rule)))
        self.assertEqual(total - prices[-1] * end, cost)

    def check_too_tight(self, rows, rule, end):
        kept = copy.deepcopy(rows)
        with self.assertRaises(TooTight) as caught:
            moved(rows, rule, pair(end))
        self.assertIs(type(caught.exception), TooTight)
        self.assertIsInstance(caught.exception, ReelError)
        self.assertEqual(rows, kept)

    def check_best(self, rows, rule, end):
        best = least_cost(rows, rule, end)
        if best is None:
            self.check_too_tight(rows, rule, end)
        else:
            self.assertEqual(self.check_moved(rows, rule, end)[1], best)


class ByHandTest(MovedTest):
    def test_no_rows(self):
        for end in (0, 10, "1/3"):
            self.assertEqual(moved([], rule_of(1, 2, 3), pair(end)), ([], (0, 1), []))

    def check_only(self, rows, rule, end, times, cost):
        """Where only one choice is the best one."""
        with self.subTest(rows=rows, rule=rule, end=end):
            told, paid = self.check_moved(rows, rule, Fraction(end))
            self.assertEqual(told, [Fraction(time) for time in times])
            self.assertEqual(paid, Fraction(cost))

    def test_nothing_to_move(self):
        self.check_only([row(2, 5, "abc")], rule_of(1, 0, 3), 5, [2, 5], 0)
        self.check_only([row(0, 3, "abc"), row(5, 6)], rule_of(1, 2, 1), 6, [0, 3, 5, 6], 0)

    def test_one_row_too_short(self):
        # The cheaper end of the two is moved.
        self.check_only([row(5, 6)], rule_of(0, 0, 3, 2, 1), 20, [5, 8], 2)
        self.check_only([row(5, 6)], rule_of(0, 0, 3, 1, 2), 20, [3, 6], 2)
        self.check_only([row(5, 6, "abcd", "e")], rule_of("1/2", 0, 1, 2, 1), 20, [5, "15/2"], "3/2")
        self.check_only([row(5, 6, "abcd", "e")], rule_of("1/2", 0, "7/2", 9, 8), 20, [5, "17/2"], 20)
        self.check_only([row(5, 6)], rule_of(9, 0, 0), 20, [5, 6], 0)

    def test_at_the_edges(self):
        self.check_only([row(1, 2)], rule_of(0, 0, 4, 1, 9), 20, [0, 4], 1 + 18)
        self.check_only([row(5, 6)], rule_of(0, 0, 3, 9, 1), 7, [4, 7], 9 + 1)
        self.check_only([row(5, 9)], rule_of(0, 0, 3, 1, 1), 7, [4, 7], 1 + 2)
        self.check_only([row(50, 60)], rule_of(0, 0, 3, 1, 1), 7, [4, 7], 46 + 53)
        self.check_only([row(5, 6)], rule_of(0, 0, 7, 1, 1), 7, [0, 7], 5 + 1)

    def test_two_rows_too_near(self):
        self.check_only([row(0, 5), row(5, 9)], rule_of(0, 2, 1, 2, 1), 20, [0, 3, 5, 9], 2)
        self.check_only([row(0, 5), row(5, 9)], rule_of(0, 2, 1, 1, 2), 20, [0, 5, 7, 9], 2)

    def test_rows_out_of_order_keep_their_order(self):
        times, cost = self.check_moved([row(10, 12), row(0, 2)], rule_of(0, 1, 2), 20)
        self.assertEqual(cost, least_cost([row(10, 12), row(0, 2)], rule_of(0, 1, 2), 20))
        self.assertLessEqual(times[1] + 1, times[2])
        # A row that ends ahead of its begin, too.
        self.check_only([row(8, 3)], rule_of(0, 0, 1, 1, 9), 20, [2, 3], 6)

    def test_just_enough_and_too_little_room(self):
        rows = [row(3, 4, "ab"), row(4, 5), row(1, 2, "abc", "def")]
        rule = rule_of("1/2", "1/3", 2, 3, 4)
        # The rows take 2, 2 and 3, the gaps 2/3.
        self.check_only(rows, rule, "23/3", [0, 2, "7/3", "13/3", "14/3", "23/3"],
                        Fraction(3 * (3 + Fraction(5, 3) + Fraction(11, 3)) + 4 * (2 + Fraction(2, 3) + Fraction(17, 3))))
        self.check_too_tight(rows, rule, Fraction(23, 3) - Fraction(1, 10**9))
        self.check_too_tight(rows, rule, 0)

    def test_the_end_is_0(self):
        self.check_too_tight([row(0, 1)], rule_of(0, 0, 1), 0)
        self.check_too_tight([row(0, 1, "a")], rule_of("1/9", 0, 0), 0)
        self.check_too_tight([row(0, 1), row(0, 1)], rule_of(0, "1/9", 0), 0)
        # Where the rule asks for nothing, rows of no length keep it.
        self.check_only([row(1, 2), row(3, 5, "abc")], rule_of(0, 0, 0, 2, 3), 0, [0] * 4, 2 * 4 + 3 * 7)
        self.check_only([row(1, 2)], rule_of(5, 3, 0), 0, [0, 0], 3)

    def test_gaps_count_only_between_rows(self):
        self.check_only([row(0, 2)], rule_of(0, 9, 2), 2, [0, 2], 0)

    def test_only_letters_of_the_rows_own_words_count(self):
        self.check_only([row(0, 1, "abcde"), row(20, 21), row(30, 31, "x", "yz", "e" * 4)],
                        rule_of(1, 0, 0, 9, 1), 50, [0, 5, 20, 21, 30, 37], 4 + 6)


class LeastCostTest(MovedTest):
    def test_all_other_whole_times(self):
        # With whole numbers handed in, some of the best times are whole ones.
        for seed in range(60):
            chance = random.Random(seed)
            rows = [row(chance.randint(0, 6), chance.randint(0, 6), "a" * chance.randint(0, 2))
                    for count in range(chance.randint(1, 2))]
            rule = rule_of(chance.randint(0, 1), chance.randint(0, 2), chance.randint(0, 2),
                           chance.randint(1, 9), chance.randint(1, 9))
            end = chance.randint(0, 6)
            costs = [cost_of(times, rows, rule)
                     for times in itertools.product(range(end + 1), repeat=2 * len(rows))
                     if keeps(times, rows, rule, end)]
            with self.subTest(rows=rows, rule=rule, end=end):
                self.assertEqual(least_cost(rows, rule, end), min(costs, default=None))
                self.check_best(rows, rule, Fraction(end))

    def many(self, seed, count):
        """Rows, a rule, and ends with much room, a little, just enough and too little."""
        chance = random.Random(seed)
        bottoms = chance.choice(((1,), (1, 2), (1, 2, 3, 7)))
        rows = []
        for at in range(count):
            begin = Fraction(chance.randint(0, 4 * count), chance.choice(bottoms))
            end = begin + Fraction(chance.randint(1, 9), chance.choice(bottoms))
            rows.append(row(begin, end, *chance.choices(WORDS, k=chance.randint(0, 3))))
        if chance.random() < 0.7:
            rows.sort(key=lambda each: exact(each[0]))
        parts = [chance.choice((Fraction(0), Fraction(1, 3), Fraction(1, 2), Fraction(1), Fraction(5, 2)))
                 for part in range(3)]
        rule = rule_of(*parts, chance.randint(1, 9), chance.randint(1, 9))
        enough = sum(asked(rows, rule))
        ends = [enough, enough + Fraction(1, 7), enough * 2 + 3, enough + 10**4, enough - Fraction(1, 100)]
        return rows, rule, [end for end in ends if end >= 0]

    def check_counts(self, counts, seeds):
        for count in counts:
            for seed in range(seeds):
                rows, rule, ends = self.many(seed * 100 + count, count)
                for end in ends:
                    with self.subTest(count=count, seed=seed, end=end):
                        self.check_best(rows, rule, end)

    def test_a_few_rows(self):
        self.check_counts((1, 2, 3, 4, 5), 60)

    def test_many_rows(self):
        self.check_counts((20,), 15)
        self.check_counts((100,), 1)

    def test_nearby_times_cost_no_less(self):
        for seed in range(40):
            rows, rule, ends = self.many(seed, 4)
            for end in ends[:3]:
                times, cost = self.check_moved(rows, rule, end)
                for at, move in itertools.product(range(len(times)), (Fraction(1, 9), Fraction(-1, 9), 1, -1)):
                    # One time alone, and all from it on.
                    for until in (at + 1, len(times)):
                        other = times[:at] + [time + move for time in times[at:until]] + times[until:]
                        if keeps(other, rows, rule, end):
                            self.assertGreaterEqual(cost_of(other, rows, rule), cost)

    def test_rows_of_a_listing(self):
        show = show_of((0, 10), (5, 30, 2), (40, 41, "1/2"))
        cues = [(at, pair(at * 2), pair(at * 2 + 3), [("word", pair(at * 2)), ("be", pair(at * 2 + 1))])
                for at in range(20)]
        rows = listing(show, cues)
        self.assertGreater(len(rows), 15)
        for end in (150, 50, 20):
            self.check_best(rows, rule_of("1/3", "1/5", 2, 3, 2), Fraction(end))


class HandedInAndToldTest(MovedTest):
    def test_what_is_told_is_new(self):
        rows, rule = [row(0, 1, "abc"), row(1, 2)], rule_of(1, 1, 1)
        expected = copy.deepcopy(moved(rows, rule, (20, 1)))
        told = moved(rows, rule, (20, 1))
        told[0].clear()
        told[2].clear()
        self.assertEqual(moved(rows, rule, (20, 1)), expected)
        none = moved([], rule, (20, 1))
        none[0].append(1)
        none[2].append(1)
        self.assertEqual(moved([], rule, (20, 1)), ([], (0, 1), []))

    def test_what_was_handed_in_may_be_changed_later(self):
        rows, rule = [row(0, 1, "abc"), row(1, 2)], rule_of(1, 1, 1)
        told = moved(rows, rule, (20, 1))
        expected = copy.deepcopy(told)
        rows[0][3].clear()
        rows.clear()
        self.assertEqual(told, expected)


if __name__ == "__main__":
    unittest.main()
