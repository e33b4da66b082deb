"""Rows of a listing moved as little as can be, with the prices that show it."""

from reels.errors import TooTight
from reels.fracs import NOUGHT, common_bottom, larger, made, scaled, timed


def moved(rows, rule, end):
    """Tell (times, cost, prices) of moving rows to keep a rule up to an end; refuse with TooTight."""
    if not rows:
        return ([], NOUGHT, [])
    wishes = [time for row in rows for time in row[:2]]
    asked = distances(rows, rule)
    weights = [rule[3], rule[4]] * len(rows)
    # Over one bottom all is reckoned in whole numbers.
    bottom = common_bottom(wishes + asked + [end])
    wishes = [scaled(wish, bottom) for wish in wishes]
    asked = [scaled(distance, bottom) for distance in asked]
    times = best_times(wishes, asked, scaled(end, bottom), weights)
    moves = [time - wish for time, wish in zip(times, wishes)]
    cost = sum([weight * abs(move) for move, weight in zip(moves, weights)])
    prices = least_prices([price_step(move, weight) for move, weight in zip(moves, weights)])
    return (as_pairs([made(time, bottom) for time in times]), made(cost, bottom), prices)


def distances(rows, rule):
    """Tell how far at the least each begin and end is from the one ahead, the first one from 0."""
    each, gap, least = rule[:3]
    asked = []
    for row in rows:
        letters = sum(len(word) for word in row[3])
        asked.append(gap if asked else NOUGHT)
        asked.append(larger(least, timed(each, (letters, 1))))
    return asked


def as_pairs(times):
    """Tell begins and ends by turns as pairs."""
    return [(times[at], times[at + 1]) for at in range(0, len(times), 2)]


def best_times(wishes, asked, end, weights):
    """Tell times that keep the distances, up to the end, and cost the least; refuse with TooTight."""
    offsets = running_sums(asked)
    room = end - offsets[-1]
    if room < 0:
        raise TooTight("the rows do not fit ahead of the end")
    # Less what is asked ahead of them, the times need only not fall, and stay from 0 to the room.
    # The best ones without these two bounds, each brought within them, are the best ones with them.
    levels = best_levels([wish - offset for wish, offset in zip(wishes, offsets)], weights)
    return [min(max(level, 0), room) + offset for level, offset in zip(levels, offsets)]


def running_sums(numbers):
    """Tell for each number the sum of all up to it."""
    sums = []
    total = 0
    for number in numbers:
        total += number
        sums.append(total)
    return sums


def best_levels(wishes, weights):
    """Tell numbers, none below the one ahead, that are the least away from the wishes, by weights."""
    blocks = []
    for wish, weight in zip(wishes, weights):
        block = (wish, [(wish, weight)])
        # Levels that would fall stand together, at the level that is best for all of them.
        while blocks and blocks[-1][0] > block[0]:
            together = sorted(blocks.pop()[1] + block[1])
            block = (middle(together), together)
        blocks.append(block)
    return [level for level, members in blocks for member in members]


def middle(together):
    """Tell the first of sorted (wish, weight) that has half of the weight up to it."""
    total = sum(weight for wish, weight in together)
    passed = 0
    for wish, weight in together:
        passed += weight
        if 2 * passed >= total:
            break
    return wish


def price_step(move, weight):
    """Tell the least and the most that a price rises over a time that was moved so far."""
    if move > 0:
        return (-weight, -weight)
    if move < 0:
        return (weight, weight)
    return (-weight, weight)


def least_prices(steps):
    """Tell the least prices, none below 0, that rise by the steps."""
    # Some prices with these steps are 0 wherever a distance is more than is asked, as the times are
    # the best ones; so the least prices are, too, and that makes their sum the cost.
    lows = [0]
    for least, most in steps:
        lows.append(max(0, lows[-1] + least))
    prices = [lows.pop()]
    for low, (least, most) in zip(lows[::-1], steps[::-1]):
        prices.append(max(low, prices[-1] - most))
    return prices[::-1]
