"""Sheets: tuples (wide, high, spots), the spots row by row from the top, each row from the left."""

from glazework.shares import is_whole
from glazework.spots import CLEAR, blended, is_spot

GREATEST = 8


def is_size(thing):
    return is_whole(thing) and 1 <= thing <= GREATEST


def is_sized(thing):
    # Sheets and pictures alike begin with their size and end with a tuple.
    if not isinstance(thing, tuple) or len(thing) != 3:
        return False
    return is_size(thing[0]) and is_size(thing[1]) and isinstance(thing[2], tuple)


def is_sheet(thing):
    if not is_sized(thing):
        return False
    spots = thing[2]
    return len(spots) == thing[0] * thing[1] and all([is_spot(spot) for spot in spots])


def are_of_one_size(one, other):
    return one[0] == other[0] and one[1] == other[1]


def places_of(wide, high):
    return [(number % wide, number // wide) for number in range(wide * high)]


def has_place(sheet, x, y):
    return 0 <= x < sheet[0] and 0 <= y < sheet[1]


def number_of_place(sheet, x, y):
    return y * sheet[0] + x


def spot_at(sheet, x, y):
    if not has_place(sheet, x, y):
        return CLEAR
    return sheet[2][number_of_place(sheet, x, y)]


def with_spot(sheet, x, y, spot):
    number = number_of_place(sheet, x, y)
    return (sheet[0], sheet[1], sheet[2][:number] + (spot,) + sheet[2][number + 1:])


def plain_sheet(wide, high, spot):
    return (wide, high, (spot,) * (wide * high))


def part_of(sheet, left, top, wide, high):
    return (wide, high, tuple([spot_at(sheet, left + x, top + y) for x, y in places_of(wide, high)]))


def mirrored(sheet):
    wide = sheet[0]
    high = sheet[1]
    return (wide, high, tuple([spot_at(sheet, wide - 1 - x, y) for x, y in places_of(wide, high)]))


def turned(sheet):
    wide = sheet[0]
    high = sheet[1]
    # The turned sheet's columns, from the right, are the rows from the top.
    return (high, wide, tuple([spot_at(sheet, y, high - 1 - x) for x, y in places_of(high, wide)]))


def blended_sheets(manner, above, below):
    spots = [blended(manner, one, other) for one, other in zip(above[2], below[2])]
    return (above[0], above[1], tuple(spots))
