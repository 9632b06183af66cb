"""12.1, 0.2 (i), and 0.3 as far as it speaks of sheets put together."""

import copy
import unittest

from bydocument import is_sound_sheet
from glazework.errors import GlazeError, NoMerge
from glazework.sheets import part_of
from glazework.tiling import grown, set_below, set_beside
from samples import BLACK, BROAD, CLEAR, DIM, HUGE, PALE, RED, SPOTS, WHITE, Draws, plain

SIZES = [(wide, high) for wide in range(1, 9) for high in range(1, 9)]


def rows_of(sheet):
    wide, high, spots = sheet
    return [list(spots[row * wide:row * wide + wide]) for row in range(high)]


def sheet_of_rows(rows):
    return (len(rows[0]), len(rows), tuple(spot for row in rows for spot in row))


class TilingCase(unittest.TestCase):
    def refused(self, deed, one, other):
        before = copy.deepcopy((one, other))
        with self.assertRaises(NoMerge) as caught:
            deed(one, other)
        self.assertIs(type(caught.exception), NoMerge)
        self.assertIsInstance(caught.exception, GlazeError)
        self.assertEqual((one, other), before)

    def comes(self, deed, one, other, wanted):
        before = copy.deepcopy((one, other))
        told = deed(one, other)
        self.assertTrue(is_sound_sheet(told), told)
        self.assertEqual(told, wanted)
        self.assertEqual((one, other), before)


class Beside(TilingCase):
    def test_by_hand(self):
        one = (1, 2, (RED, PALE))
        other = (2, 2, (BLACK, CLEAR, WHITE, DIM))
        self.comes(set_beside, one, other, (3, 2, (RED, BLACK, CLEAR, PALE, WHITE, DIM)))
        self.comes(set_beside, other, one, (3, 2, (BLACK, CLEAR, RED, WHITE, DIM, PALE)))
        self.comes(set_beside, one, one, (2, 2, (RED, RED, PALE, PALE)))

    def test_all_sizes(self):
        draws = Draws(71)
        for wide, high in SIZES:
            for further in (1, 2, 8 - wide, 9 - wide, 8):
                if further > 0:
                    one, other = draws.sheet(wide, high), draws.sheet(further, high)
                    if wide + further <= 8:
                        rows = [mine + theirs for mine, theirs in zip(rows_of(one), rows_of(other))]
                        self.comes(set_beside, one, other, sheet_of_rows(rows))
                    else:
                        self.refused(set_beside, one, other)

    def test_unlike_heights(self):
        for high in range(1, 9):
            for other in range(1, 9):
                if high != other:
                    self.refused(set_beside, plain(2, high), plain(2, other))
                    self.refused(set_beside, plain(other, high), plain(high, other))

    def test_eight_and_nine_wide(self):
        self.comes(set_beside, plain(4, 8), plain(4, 8), plain(8, 8))
        self.comes(set_beside, plain(7, 1), plain(1, 1), plain(8, 1))
        self.refused(set_beside, plain(8, 1), plain(1, 1))
        self.refused(set_beside, plain(1, 1), plain(8, 1))
        self.refused(set_beside, plain(5, 3), plain(4, 3))


class Below(TilingCase):
    def test_by_hand(self):
        one = (2, 1, (RED, PALE))
        other = (2, 2, (BLACK, CLEAR, WHITE, DIM))
        self.comes(set_below, one, other, (2, 3, (RED, PALE, BLACK, CLEAR, WHITE, DIM)))
        self.comes(set_below, other, one, (2, 3, (BLACK, CLEAR, WHITE, DIM, RED, PALE)))
        self.comes(set_below, one, one, (2, 2, (RED, PALE, RED, PALE)))

    def test_all_sizes(self):
        draws = Draws(72)
        for wide, high in SIZES:
            for further in (1, 2, 8 - high, 9 - high, 8):
                if further > 0:
                    one, other = draws.sheet(wide, high), draws.sheet(wide, further)
                    if high + further <= 8:
                        self.comes(set_below, one, other, sheet_of_rows(rows_of(one) + rows_of(other)))
                    else:
                        self.refused(set_below, one, other)

    def test_unlike_widths(self):
        for wide in range(1, 9):
            for other in range(1, 9):
                if wide != other:
                    self.refused(set_below, plain(wide, 2), plain(other, 2))
                    self.refused(set_below, plain(wide, other), plain(other, wide))

    def test_eight_and_nine_high(self):
        self.comes(set_below, plain(8, 4), plain(8, 4), plain(8, 8))
        self.comes(set_below, plain(1, 7), plain(1, 1), plain(1, 8))
        self.refused(set_below, plain(1, 8), plain(1, 1))
        self.refused(set_below, plain(1, 1), plain(1, 8))
        self.refused(set_below, plain(3, 5), plain(3, 4))


class Grown(TilingCase):
    def test_by_hand(self):
        self.comes(grown, (2, 1, (RED, PALE)), 2, (4, 2, (RED, RED, PALE, PALE) * 2))
        self.comes(grown, (1, 2, (RED, PALE)), 2, (2, 4, (RED,) * 4 + (PALE,) * 4))
        self.comes(grown, (2, 1, (RED, PALE)), 3, (6, 3, (RED, RED, RED, PALE, PALE, PALE) * 3))

    def test_by_one_it_is_the_same(self):
        for wide, high in SIZES:
            self.comes(grown, plain(wide, high, DIM), 1, plain(wide, high, DIM))
        self.comes(grown, BROAD, 1, BROAD)

    def test_all_sizes(self):
        draws = Draws(73)
        for wide, high in SIZES:
            sheet = draws.sheet(wide, high)
            for by in range(1, 10):
                if wide * by <= 8 and high * by <= 8:
                    rows = [[spot for spot in row for _ in range(by)] for row in rows_of(sheet) for _ in range(by)]
                    self.comes(grown, sheet, by, sheet_of_rows(rows))
                else:
                    self.refused(grown, sheet, by)

    def test_less_than_one(self):
        for by in (0, -1, -2, -8, -9, -HUGE, -10 ** 5000):
            for wide, high in ((1, 1), (2, 3), (8, 8)):
                self.refused(grown, plain(wide, high), by)

    def test_eight_and_beyond(self):
        self.comes(grown, plain(1, 1, SPOTS[4]), 8, plain(8, 8, SPOTS[4]))
        self.comes(grown, plain(2, 1), 4, plain(8, 4))
        self.comes(grown, plain(1, 2), 4, plain(4, 8))
        for sheet, by in ((plain(1, 1), 9), (plain(2, 1), 5), (plain(1, 2), 5), (plain(3, 1), 3), (plain(1, 3), 3),
                          (plain(8, 1), 2), (plain(1, 8), 2), (plain(1, 1), HUGE), (plain(1, 1), 10 ** 5000)):
            self.refused(grown, sheet, by)


class PutTogetherAgain(TilingCase):
    def test_parts_of_a_sheet(self):
        draws = Draws(74)
        for wide, high in SIZES:
            sheet = draws.sheet(wide, high)
            for left in range(1, wide):
                parts = part_of(sheet, 0, 0, left, high), part_of(sheet, left, 0, wide - left, high)
                self.comes(set_beside, parts[0], parts[1], sheet)
            for top in range(1, high):
                parts = part_of(sheet, 0, 0, wide, top), part_of(sheet, 0, top, wide, high - top)
                self.comes(set_below, parts[0], parts[1], sheet)

    def test_the_parts_of_what_was_put_together(self):
        draws = Draws(75)
        for wide, high in SIZES:
            one, other = draws.sheet(wide, high), draws.sheet(3, high)
            if wide + 3 <= 8:
                told = set_beside(one, other)
                self.assertEqual(part_of(told, 0, 0, wide, high), one)
                self.assertEqual(part_of(told, wide, 0, 3, high), other)
            one, other = draws.sheet(wide, high), draws.sheet(wide, 3)
            if high + 3 <= 8:
                told = set_below(one, other)
                self.assertEqual(part_of(told, 0, 0, wide, high), one)
                self.assertEqual(part_of(told, 0, high, wide, 3), other)


if __name__ == "__main__":
    unittest.main()
