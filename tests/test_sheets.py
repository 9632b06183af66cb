"""2.1, 2.2, and 0.3 as far as it speaks of sheets."""

import copy
import unittest

from bydocument import blended_by_document, is_sound_sheet
from glazework.sheets import blended_sheets, is_sheet, mirrored, part_of, plain_sheet, spot_at, turned
from samples import (
    BLACK, BROAD, CLEAR, DIM, HALF, HUGE, MANNERS, ONE, OTHER_THINGS, PALE, RED, SPOTS, STRENGTHS, WHITE, ZERO,
    plain, sheet_of,
)

A, B, C, D, E, F = SPOTS[:6]
SHEETS = (BROAD, plain(1, 1), plain(8, 8), plain(8, 1, WHITE), plain(1, 8, CLEAR), sheet_of(2, SPOTS[:10]))


class IsSheet(unittest.TestCase):
    def accepted(self, thing):
        self.assertIs(is_sheet(thing), True, thing)

    def refused(self, thing):
        self.assertIs(is_sheet(thing), False, thing)

    def test_sheets(self):
        for sheet in SHEETS:
            self.accepted(sheet)

    def test_all_sizes(self):
        for wide in range(-1, 11):
            for high in range(-1, 11):
                many = max(wide * high, 0)
                self.assertIs(is_sheet((wide, high, (RED,) * many)), 1 <= wide <= 8 and 1 <= high <= 8, (wide, high))

    def test_nought_and_nine(self):
        self.refused((0, 1, ()))
        self.refused((1, 0, ()))
        self.refused((0, 0, ()))
        self.refused(plain(9, 1))
        self.refused(plain(1, 9))
        self.refused((-1, -1, (RED,)))
        self.refused((HUGE, 1, (RED,)))

    def test_too_few_or_too_many_spots(self):
        for wide, high in ((1, 1), (3, 2), (8, 8)):
            many = wide * high
            self.accepted((wide, high, (PALE,) * many))
            for other in (0, many - 1, many + 1, 2 * many):
                self.refused((wide, high, (PALE,) * other))

    def test_truths_are_no_numbers(self):
        self.refused((True, 1, (RED,)))
        self.refused((1, True, (RED,)))
        self.refused((True, True, (RED,)))

    def test_lists_are_no_tuples(self):
        self.refused([1, 1, (RED,)])
        self.refused((1, 1, [RED]))
        self.refused((1, 1, (list(RED),)))
        self.refused([1, 1, [list(RED)]])

    def test_other_numbers(self):
        for thing in (None, "1", (1,), [1], (1, 1)):
            self.refused((thing, 1, (RED,)))
            self.refused((1, thing, (RED,)))

    def test_each_spot_must_be_one(self):
        for thing in OTHER_THINGS + STRENGTHS + ((ZERO, ONE, ZERO, ZERO), ((2, 4), ZERO, ZERO, ZERO)):
            for number in range(6):
                spots = list(SPOTS[:6])
                spots[number] = thing
                self.refused((3, 2, tuple(spots)))

    def test_too_few_or_too_many_parts(self):
        self.refused((1, 1))
        self.refused((1, (RED,)))
        self.refused((1, 1, (RED,), (RED,)))
        self.refused((1, 1, (RED,), None))

    def test_any_other_thing(self):
        for thing in OTHER_THINGS + SPOTS + STRENGTHS:
            self.refused(thing)
            self.refused((thing,) * 3)
            self.refused((1, 1, thing))
            self.refused((1, 1, [thing]))

    def test_nothing_is_changed(self):
        for thing in OTHER_THINGS + SHEETS + ([1, 1, [RED]],):
            before = copy.deepcopy(thing)
            is_sheet(thing)
            self.assertEqual(thing, before)


class SpotAt(unittest.TestCase):
    def test_each_place(self):
        rows = ((A, B, C), (D, E, F))
        for y in range(2):
            for x in range(3):
                self.assertEqual(spot_at(BROAD, x, y), rows[y][x])

    def test_the_corners_of_the_greatest(self):
        spots = [PALE] * 64
        spots[0], spots[7], spots[56], spots[63] = RED, WHITE, BLACK, DIM
        sheet = sheet_of(8, spots)
        told = [spot_at(sheet, x, y) for x, y in ((0, 0), (7, 0), (0, 7), (7, 7), (1, 0), (0, 1))]
        self.assertEqual(told, [RED, WHITE, BLACK, DIM, PALE, PALE])

    def test_outside_on_all_sides(self):
        sheet = plain(3, 2, RED)
        for x in range(-4, 8):
            for y in range(-4, 8):
                wanted = RED if 0 <= x < 3 and 0 <= y < 2 else CLEAR
                self.assertEqual(spot_at(sheet, x, y), wanted, (x, y))

    def test_far_off(self):
        sheet = plain(3, 2, RED)
        for far in (100, HUGE):
            for x, y in ((far, 0), (-far, 0), (0, far), (0, -far), (far, far), (-far, -far)):
                self.assertEqual(spot_at(sheet, x, y), CLEAR)

    def test_of_a_sheet_somewhat_beyond(self):
        self.assertEqual(spot_at(plain(9, 1, RED), 8, 0), RED)


class Made(unittest.TestCase):
    def sound(self, sheet):
        self.assertTrue(is_sound_sheet(sheet), sheet)
        self.assertIs(is_sheet(sheet), True)

    def test_plain(self):
        for wide in range(1, 9):
            for high in range(1, 9):
                told = plain_sheet(wide, high, DIM)
                self.sound(told)
                self.assertEqual(told, (wide, high, (DIM,) * (wide * high)))

    def test_plain_somewhat_beyond(self):
        self.assertEqual(plain_sheet(9, 2, RED), (9, 2, (RED,) * 18))

    def test_part_within(self):
        self.assertEqual(part_of(BROAD, 0, 0, 3, 2), BROAD)
        self.assertEqual(part_of(BROAD, 1, 0, 2, 1), (2, 1, (B, C)))
        self.assertEqual(part_of(BROAD, 1, 1, 1, 1), (1, 1, (E,)))
        self.assertEqual(part_of(BROAD, 0, 0, 1, 2), (1, 2, (A, D)))

    def test_part_beyond_each_side(self):
        self.assertEqual(part_of(BROAD, -1, 0, 2, 2), (2, 2, (CLEAR, A, CLEAR, D)))
        self.assertEqual(part_of(BROAD, 2, 0, 2, 2), (2, 2, (C, CLEAR, F, CLEAR)))
        self.assertEqual(part_of(BROAD, 1, -1, 1, 2), (1, 2, (CLEAR, B)))
        self.assertEqual(part_of(BROAD, 1, 1, 1, 2), (1, 2, (E, CLEAR)))
        self.assertEqual(part_of(BROAD, -1, -1, 2, 2), (2, 2, (CLEAR, CLEAR, CLEAR, A)))

    def test_part_round_the_whole_and_far_off(self):
        told = part_of(plain(1, 1, RED), -3, -4, 8, 8)
        self.sound(told)
        self.assertEqual([number for number, spot in enumerate(told[2]) if spot != CLEAR], [35])
        self.assertEqual(told[2][35], RED)
        self.assertEqual(part_of(BROAD, HUGE, -HUGE, 2, 3), plain(2, 3, CLEAR))

    def test_part_against_spot_at(self):
        for sheet in SHEETS:
            for left, top, wide, high in ((-2, -1, 5, 4), (0, 1, 8, 1), (3, 3, 2, 7)):
                told = part_of(sheet, left, top, wide, high)
                self.sound(told)
                self.assertEqual(told[:2], (wide, high))
                for x in range(wide):
                    for y in range(high):
                        self.assertEqual(spot_at(told, x, y), spot_at(sheet, left + x, top + y))

    def test_mirrored(self):
        self.assertEqual(mirrored(BROAD), (3, 2, (C, B, A, F, E, D)))
        self.assertEqual(mirrored((1, 2, (A, B))), (1, 2, (A, B)))
        self.assertEqual(mirrored((2, 1, (A, B))), (2, 1, (B, A)))

    def test_turned(self):
        self.assertEqual(turned(BROAD), (2, 3, (D, A, E, B, F, C)))
        self.assertEqual(turned((3, 1, (A, B, C))), (1, 3, (A, B, C)))
        self.assertEqual(turned((1, 3, (A, B, C))), (3, 1, (C, B, A)))

    def test_the_first_row_becomes_the_last_column(self):
        for sheet in SHEETS:
            told = turned(sheet)
            self.assertEqual(told[:2], (sheet[1], sheet[0]))
            column = [spot_at(told, told[0] - 1, y) for y in range(told[1])]
            self.assertEqual(column, list(sheet[2][:sheet[0]]))

    def test_twice_mirrored_and_four_turns(self):
        for sheet in SHEETS:
            self.sound(mirrored(sheet))
            self.sound(turned(sheet))
            self.assertEqual(mirrored(mirrored(sheet)), sheet)
            half = turned(turned(sheet))
            self.assertEqual(half, (sheet[0], sheet[1], sheet[2][::-1]))
            self.assertEqual(turned(turned(half)), sheet)

    def test_blended_by_each_manner(self):
        below = (3, 2, SPOTS[4:10])
        for manner in MANNERS:
            told = blended_sheets(manner, BROAD, below)
            self.sound(told)
            wanted = [blended_by_document(manner, one, other) for one, other in zip(SPOTS[:6], SPOTS[4:10])]
            self.assertEqual(told, (3, 2, tuple(wanted)), manner)

    def test_which_one_is_above(self):
        one, other = plain(2, 1, RED), plain(2, 1, BLACK)
        self.assertEqual(blended_sheets("over", one, other), one)
        self.assertEqual(blended_sheets("over", other, one), other)
        self.assertEqual(blended_sheets("over", plain(1, 1, (HALF, HALF, ZERO, ZERO)), plain(1, 1, BLACK)),
                         plain(1, 1, (ONE, HALF, ZERO, ZERO)))


if __name__ == "__main__":
    unittest.main()
