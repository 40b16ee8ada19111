"""Fractions: pairs (over, under) in lowest terms, under 1 or more."""

from heedless.errors import BadPart


def greatest_common(one, other):
    """The greatest number that goes whole into both, neither of them below nought."""
    while other != 0:
        one, other = other, one % other
    return one


def part(over, under=1):
    """The fraction over / under as a part."""
    if under == 0:
        raise BadPart()
    shared = greatest_common(abs(over), abs(under))
    # A divisor below nought turns both signs, so that under ends above nought.
    if under < 0:
        shared = -shared
    return over // shared, under // shared


def plus(one, other):
    """The sum of two parts."""
    return part(one[0] * other[1] + other[0] * one[1], one[1] * other[1])


def less(one, other):
    """The first part less the second."""
    return part(one[0] * other[1] - other[0] * one[1], one[1] * other[1])


def times(one, other):
    """The product of two parts."""
    return part(one[0] * other[0], one[1] * other[1])


def divided(one, other):
    """The first part divided by the second, which is not nought."""
    return part(one[0] * other[1], one[1] * other[0])


def total(line):
    """The sum of all parts of a list."""
    summed = part(0)
    for one in line:
        summed = plus(summed, one)
    return summed


def below(one, other):
    """Whether the first part is less than the second."""
    return less(one, other)[0] < 0
