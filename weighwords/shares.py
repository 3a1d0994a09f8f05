"""Shares: fractions as pairs of whole numbers, each fraction one pair alone."""

from math import gcd

from weighwords.errors import Nought


def _is_whole(thing):
    # Asked by the very class, since True and False are ints to isinstance.
    return type(thing) == int


def is_share(thing):
    """Whether the thing, which may be anything, is a share."""
    if type(thing) != tuple or len(thing) != 2:
        return False
    top, bottom = thing
    if not _is_whole(top) or not _is_whole(bottom):
        return False
    return bottom >= 1 and gcd(top, bottom) == 1


def share(top, bottom):
    """The share of top divided by bottom; Nought where the bottom is 0."""
    if bottom == 0:
        raise Nought("the bottom of a share is not nought")
    common = gcd(top, bottom)
    if bottom < 0:
        # Dividing both by a number below nought brings the bottom above it.
        common = -common
    return (top // common, bottom // common)


def plus(one, other):
    """The one and the other added."""
    return share(one[0] * other[1] + other[0] * one[1], one[1] * other[1])


def less(one, other):
    """The one without the other."""
    return share(one[0] * other[1] - other[0] * one[1], one[1] * other[1])


def times(one, other):
    """The one taken so many times as the other tells."""
    return share(one[0] * other[0], one[1] * other[1])


def over(one, other):
    """The one divided by the other; Nought where the other is nought."""
    if other[0] == 0:
        raise Nought("nothing is divided by nought")
    return share(one[0] * other[1], one[1] * other[0])
