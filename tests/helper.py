"""What several tests use: the program's fractions beside Python's own."""

from fractions import Fraction


def pair(value, bottom=1):
    """The program's fraction of a number, or of a top and a bottom."""
    exact = Fraction(value) / bottom
    return (exact.numerator, exact.denominator)


def exact(fraction):
    """Python's fraction of one of the program's."""
    return Fraction(*fraction)


def stretch(begin, end, pace=1):
    """A stretch of numbers that Fraction takes ("7/3" too)."""
    return (pair(begin), pair(end), pair(pace))


def show_of(*rows):
    return [stretch(*row) for row in rows]


# Every show here is told as rows for show_of, so that each test makes its own.
SHOWS = {
    "none": (),
    "one": ((0, 10),),
    "one from a fraction on": (("7/3", "29/6", "1/2"),),
    "one at pace 2": ((5, 12, 2),),
    "several apart": ((0, 10), (20, 25, 2), (3, 4, "1/2")),
    "goes on with the same pace": ((0, 10), (10, 25), (25, "51/2")),
    "goes on with another pace": ((0, 10), (10, 25, 2), (25, 30, "3/7")),
    "goes on at pace 2, then apart": ((1, 2, 2), (2, 5, 2), (6, 7, 2), (7, 9, 2)),
    "the same again": ((4, 6), (4, 6), (6, 8), (4, 6)),
    "backwards": ((8, 9), (7, 8), (6, 7)),
    "back and on": ((0, 3), (3, 5), (0, 3), (3, 5, 2), (5, 8, 2)),
    "fractions": (("1/3", "5/7", "2/5"), ("5/7", "9/4", "2/5"), ("9/4", 3, "5/2")),
    "a hundred that go on": tuple((k, k + 1, 3) for k in range(100)),
    "a hundred that do not": tuple((k, k + 1, k % 3 + 1) for k in range(100)),
}
