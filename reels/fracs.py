"""Exact fractions: pairs (top, bottom) in lowest terms, the bottom above 0."""

NOUGHT = (0, 1)


def common_divisor(one, two):
    """Tell the greatest common divisor of two whole numbers that are not both 0."""
    one = abs(one)
    two = abs(two)
    while two > 0:
        one, two = two, one % two
    return one


def made(top, bottom):
    """Tell the fraction of two whole numbers, the second one not 0."""
    divisor = common_divisor(top, bottom)
    if bottom < 0:
        # Dividing by a number below 0 brings the sign to the top.
        divisor = -divisor
    return (top // divisor, bottom // divisor)


def added(one, two):
    """Tell the sum of two fractions."""
    # What the top and the bottom of the sum have in common divides what the bottoms have in common.
    # So one long and one short fraction are added without a long search for a divisor.
    shared = common_divisor(one[1], two[1])
    top = one[0] * (two[1] // shared) + two[0] * (one[1] // shared)
    divisor = common_divisor(top, shared)
    return (top // divisor, one[1] // shared * (two[1] // divisor))


def less(one, two):
    """Tell the first fraction less the second."""
    return added(one, (-two[0], two[1]))


def timed(one, two):
    """Tell the product of two fractions."""
    return made(one[0] * two[0], one[1] * two[1])


def over(one, two):
    """Tell the first fraction by the second, which is not nought."""
    return made(one[0] * two[1], one[1] * two[0])


def is_below(one, two):
    """Tell whether the first fraction is less than the second."""
    return one[0] * two[1] < two[0] * one[1]


def smaller(one, two):
    """Tell the one of two fractions that is not above the other."""
    return two if is_below(two, one) else one


def larger(one, two):
    """Tell the one of two fractions that is not below the other."""
    return two if is_below(one, two) else one


def common_bottom(fractions):
    """Tell the least whole number over which all of the fractions can be written."""
    bottom = 1
    for fraction in fractions:
        bottom = bottom // common_divisor(bottom, fraction[1]) * fraction[1]
    return bottom


def scaled(fraction, bottom):
    """Tell the top of a fraction that is written over a bottom."""
    return fraction[0] * (bottom // fraction[1])
