"""Sheets put together, and sheets made greater."""

from glazework.errors import NoMerge
from glazework.sheets import GREATEST, places_of, spot_at


def spot_beside(one, other, x, y):
    return spot_at(one, x, y) if x < one[0] else spot_at(other, x - one[0], y)


def set_beside(one, other):
    wide = one[0] + other[0]
    high = one[1]
    if high != other[1] or wide > GREATEST:
        raise NoMerge("the sheets are not as high, or too wide together")
    return (wide, high, tuple([spot_beside(one, other, x, y) for x, y in places_of(wide, high)]))


def set_below(one, other):
    wide = one[0]
    high = one[1] + other[1]
    if wide != other[0] or high > GREATEST:
        raise NoMerge("the sheets are not as wide, or too high together")
    # Row by row, all of the one comes ahead of all of the other.
    return (wide, high, one[2] + other[2])


def grown(sheet, by):
    wide = sheet[0] * by
    high = sheet[1] * by
    if by < 1 or wide > GREATEST or high > GREATEST:
        raise NoMerge("the sheet can not grow so")
    return (wide, high, tuple([spot_at(sheet, x // by, y // by) for x, y in places_of(wide, high)]))
