"""Shares: exact fractions from 0 to 1, and the reckoning with them.

A fraction is a tuple (top, under) in its least form, under above 0. The
reckoning takes and tells fractions of any size, since a sum on the way to a
share may go beyond 1.
"""

ONE = (1, 1)


def is_whole(thing):
    # Python counts True and False among the ints, the document does not.
    return isinstance(thing, int) and not isinstance(thing, bool)


def common_divisor(one, other):
    while other != 0:
        left_over = one % other
        one = other
        other = left_over
    return one


def is_share(thing):
    if not isinstance(thing, tuple) or len(thing) != 2:
        return False
    top = thing[0]
    under = thing[1]
    if not is_whole(top) or not is_whole(under):
        return False
    return under > 0 and 0 <= top <= under and common_divisor(top, under) == 1


def least_form(top, under):
    divisor = common_divisor(top, under)
    return (top // divisor, under // divisor)


def is_at_most(one, other):
    return one[0] * other[1] <= other[0] * one[1]


def added(one, other):
    return least_form(one[0] * other[1] + other[0] * one[1], one[1] * other[1])


def lessened(one, other):
    return least_form(one[0] * other[1] - other[0] * one[1], one[1] * other[1])


def times(one, other):
    return least_form(one[0] * other[0], one[1] * other[1])


def divided(one, other):
    return least_form(one[0] * other[1], one[1] * other[0])


def rest_of(share):
    return lessened(ONE, share)


def at_most_one(fraction):
    return fraction if is_at_most(fraction, ONE) else ONE
