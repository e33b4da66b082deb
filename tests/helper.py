"""What several tests use: the program's fractions beside Python's own."""

from fractions import Fraction


def pair(value, bottom=1):
    """The program's fraction of a number, or of a top and a bottom."""
    exact = Fraction(value) / bottom
    return (exact.numerator, exact.denominator)


def exact(fraction):
    """Python's fraction of one of the program's."""
    return Fraction(*fraction)


def stretch(begin, end, pace=1):
    """A stretch of numbers that Fraction takes ("7/3" too)."""
    return (pair(begin), pair(end), pair(pace))


def show_of(*rows):
    return [stretch(*row) for row in rows]


def edges(show):
    """0 and each time at which a stretch ends, as Python's fractions."""
    times = [Fraction(0)]
    for begin, end, pace in show:
        times.append(times[-1] + (exact(end) - exact(begin)) / exact(pace))
    return times


def shown(show, time):
    """The place and the pace at a time, by going through the show; None off it."""
    rest = time
    for begin, end, pace in show:
        lasts = (exact(end) - exact(begin)) / exact(pace)
        if rest < lasts:
            return exact(begin) + rest * exact(pace), exact(pace)
        rest -= lasts
    return None


def probes(show):
    """Times within a show: its edges, the middles between, and near each edge."""
    ends = edges(show)
    times = set(ends)
    for one, two in zip(ends, ends[1:]):
        times.update(((one + two) / 2, one + (two - one) / 1000, two - (two - one) / 1000))
    return sorted(times)


def few_probes(show):
    """At most about twenty of the probes, the first and the last among them."""
    times = probes(show)
    return times[::len(times) // 20 + 1] + times[-1:]


def is_normal(show):
    return not any(one[1] == two[0] and one[2] == two[2] for one, two in zip(show, show[1:]))


# Every show here is told as rows for show_of, so that each test makes its own.
SHOWS = {
    "none": (),
    "one": ((0, 10),),
    "one from a fraction on": (("7/3", "29/6", "1/2"),),
    "one at pace 2": ((5, 12, 2),),
    "several apart": ((0, 10), (20, 25, 2), (3, 4, "1/2")),
    "goes on with the same pace": ((0, 10), (10, 25), (25, "51/2")),
    "goes on with another pace": ((0, 10), (10, 25, 2), (25, 30, "3/7")),
    "goes on at pace 2, then apart": ((1, 2, 2), (2, 5, 2), (6, 7, 2), (7, 9, 2)),
    "the same again": ((4, 6), (4, 6), (6, 8), (4, 6)),
    "backwards": ((8, 9), (7, 8), (6, 7)),
    "back and on": ((0, 3), (3, 5), (0, 3), (3, 5, 2), (5, 8, 2)),
    "fractions": (("1/3", "5/7", "2/5"), ("5/7", "9/4", "2/5"), ("9/4", 3, "5/2")),
    "a hundred that go on": tuple((k, k + 1, 3) for k in range(100)),
    "a hundred that do not": tuple((k, k + 1, k % 3 + 1) for k in range(100)),
}


def length_of(show):
    return edges(show)[-1]


def bare(show):
    """A show over Python's own fractions."""
    return [tuple(exact(number) for number in row) for row in show]


def told_as(rows):
    """A show, as the program tells it, of rows over Python's own fractions."""
    return [tuple(pair(number) for number in row) for row in rows]


def cut(rows, begin, end):
    """What rows over Python's own fractions show between two times."""
    pieces = []
    start = Fraction(0)
    for first, last, pace in rows:
        since = max(begin - start, 0) * pace
        until = min((end - start) * pace, last - first)
        if since < until:
            pieces.append((first + since, first + until, pace))
        start += (last - first) / pace
    return pieces


def tidy(rows):
    """The normal show of rows, built from its end."""
    if len(rows) < 2:
        return list(rows)
    behind = tidy(rows[1:])
    if rows[0][1] == behind[0][0] and rows[0][2] == behind[0][2]:
        return [(rows[0][0], behind[0][1], rows[0][2])] + behind[1:]
    return [rows[0]] + behind
