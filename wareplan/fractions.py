"""Exact fractions: pairs (top, bottom) in lowest terms, the bottom above nought."""

from wareplan.errors import NoFraction

NOUGHT = (0, 1)
ONE = (1, 1)


# Neither number is below nought, and not both are nought.
def common_divisor(one, two):
    while two != 0:
        rest = one % two
        one = two
        two = rest
    return one


def made(top, bottom):
    if bottom == 0:
        raise NoFraction("a fraction over nought")
    divisor = common_divisor(abs(top), abs(bottom))
    # A divisor with the bottom's sign moves that sign to the top.
    if bottom < 0:
        divisor = -divisor
    return (top // divisor, bottom // divisor)


def opposite(fraction):
    return (-fraction[0], fraction[1])


def plus(one, two):
    return made(one[0] * two[1] + two[0] * one[1], one[1] * two[1])


def times(one, two):
    return made(one[0] * two[0], one[1] * two[1])


# The new bottom is nought just where the second fraction is, so made refuses just there.
def over(one, two):
    return made(one[0] * two[1], one[1] * two[0])


# Both bottoms are above nought, so the crosswise products stand as the fractions do.
def less(one, two):
    return one[0] * two[1] < two[0] * one[1]
