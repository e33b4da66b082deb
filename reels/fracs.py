"""Exact fractions: pairs (top, bottom) in lowest terms, the bottom above 0."""

NOUGHT = (0, 1)


def common_divisor(one, two):
    """Tell the greatest common divisor of two whole numbers that are not both 0."""
    one = abs(one)
    two = abs(two)
    while two > 0:
        one, two = two, one % two
    return one


def made(top, bottom):
    """Tell the fraction of two whole numbers, the second one not 0."""
    divisor = common_divisor(top, bottom)
    if bottom < 0:
        # Dividing by a number below 0 brings the sign to the top.
        divisor = -divisor
    return (top // divisor, bottom // divisor)


def added(one, two):
    """Tell the sum of two fractions."""
    return made(one[0] * two[1] + two[0] * one[1], one[1] * two[1])


def less(one, two):
    """Tell the first fraction less the second."""
    return made(one[0] * two[1] - two[0] * one[1], one[1] * two[1])


def timed(one, two):
    """Tell the product of two fractions."""
    return made(one[0] * two[0], one[1] * two[1])


def over(one, two):
    """Tell the first fraction by the second, which is not nought."""
    return made(one[0] * two[1], one[1] * two[0])


def is_below(one, two):
    """Tell whether the first fraction is less than the second."""
    return one[0] * two[1] < two[0] * one[1]


def smaller(one, two):
    """Tell the one of two fractions that is not above the other."""
    return two if is_below(two, one) else one


def larger(one, two):
    """Tell the one of two fractions that is not below the other."""
    return two if is_below(one, two) else one
