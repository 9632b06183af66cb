"""11.1, 0.2 (h), and 0.3 as far as it speaks of counts."""

import copy
import unittest
from fractions import Fraction

from bydocument import box_round, is_sound_spot, places_of_box
from glazework.counting import kinds_in, mean_spot, seen_box, unlike_places
from glazework.errors import GlazeError, NoMerge
from samples import (
    BLACK, BROAD, CLEAR, DIM, HALF, HUGE, ONE, PALE, RED, SPOTS, WHITE, ZERO,
    Draws, fractions_of, plain, share, sheet_of,
)


def drawn_sheets(seed, many):
    draws = Draws(seed)
    return [draws.sheet(draws.below(4) + 1, draws.below(4) + 1) for _ in range(many)]


SHEETS = drawn_sheets(61, 150) + [BROAD, plain(8, 8), plain(1, 1, CLEAR), (1, 8, SPOTS[3:]), (8, 1, SPOTS[:8])]


def places_with(sheet, asked):
    """The places of a sheet, by what is asked of the spot there."""
    wide, high, spots = sheet
    return [(number % wide, number // wide) for number in range(wide * high) if asked(spots[number])]


class Kinds(unittest.TestCase):
    def test_one_kind(self):
        for wide, high in ((1, 1), (2, 3), (8, 8)):
            for spot in SPOTS:
                self.assertEqual(kinds_in(plain(wide, high, spot)), [(spot, wide * high)])

    def test_all_unlike(self):
        self.assertEqual(kinds_in(BROAD), [(spot, 1) for spot in sorted(BROAD[2])])

    def test_by_hand(self):
        sheet = (3, 2, (RED, CLEAR, RED, WHITE, RED, CLEAR))
        self.assertEqual(kinds_in(sheet), [(CLEAR, 2), (RED, 3), (WHITE, 1)])

    def test_the_order_of_tuples_is_not_that_of_fractions(self):
        # As fractions 1/3 is less than 1/2, as tuples (1, 2) comes first.
        less = ((1, 3), ZERO, ZERO, ZERO)
        more = (HALF, ZERO, ZERO, ZERO)
        two_thirds = ((2, 3), ZERO, ZERO, ZERO)
        whole = (ONE, ZERO, ZERO, ZERO)
        sheet = (4, 1, (less, two_thirds, more, whole))
        self.assertEqual(kinds_in(sheet), [(whole, 1), (more, 1), (less, 1), (two_thirds, 1)])

    def test_the_order_goes_on_behind_the_cover(self):
        spots = ((ONE, ONE, ZERO, ZERO), (ONE, ZERO, ONE, ZERO), (ONE, ZERO, ZERO, ONE), (ONE, ZERO, ZERO, ZERO))
        self.assertEqual(kinds_in((2, 2, spots)), [(spot, 1) for spot in (spots[3], spots[2], spots[1], spots[0])])

    def test_the_order_is_by_spots_not_by_how_many(self):
        self.assertEqual(kinds_in((3, 1, (RED, RED, BLACK))), [(BLACK, 1), (RED, 2)])
        self.assertEqual(kinds_in((3, 1, (RED, BLACK, BLACK))), [(BLACK, 2), (RED, 1)])

    def test_all_come_to_all_places(self):
        for sheet in SHEETS:
            told = kinds_in(sheet)
            self.assertIs(type(told), list)
            self.assertTrue(all(type(kind) is tuple for kind in told))
            self.assertEqual(sum(many for spot, many in told), sheet[0] * sheet[1])
            self.assertEqual(told, [(spot, sheet[2].count(spot)) for spot in sorted(set(sheet[2]))])

    def test_told_lists_are_new_ones(self):
        kinds_in(BROAD).clear()
        self.assertEqual(len(kinds_in(BROAD)), 6)


class Unlike(unittest.TestCase):
    def test_none(self):
        for sheet in SHEETS:
            self.assertEqual(unlike_places(sheet, copy.deepcopy(sheet)), [])

    def test_on_several_rows(self):
        one = plain(3, 2, RED)
        other = (3, 2, (BLACK, RED, PALE, RED, DIM, BLACK))
        self.assertEqual(unlike_places(one, other), [(0, 0), (1, 1), (2, 0), (2, 1)])
        self.assertEqual(unlike_places(other, one), [(0, 0), (1, 1), (2, 0), (2, 1)])

    def test_all_places_rise_by_x_first(self):
        wanted = [(0, 0), (0, 1), (0, 2), (1, 0), (1, 1), (1, 2)]
        self.assertEqual(unlike_places(plain(2, 3, RED), plain(2, 3, CLEAR)), wanted)

    def test_each_place(self):
        for sheet in SHEETS[:40]:
            wide, high, spots = sheet
            for number in range(wide * high):
                new = BLACK if spots[number] != BLACK else WHITE
                other = (wide, high, spots[:number] + (new,) + spots[number + 1:])
                self.assertEqual(unlike_places(sheet, other), [(number % wide, number // wide)])

    def test_drawn_sheets(self):
        draws = Draws(62)
        for one in SHEETS:
            other = draws.sheet(one[0], one[1])
            told = unlike_places(one, other)
            self.assertIs(type(told), list)
            unlike = [mine != theirs for mine, theirs in zip(one[2], other[2])]
            places = [(number % one[0], number // one[0]) for number in range(len(unlike)) if unlike[number]]
            self.assertEqual(told, sorted(places))

    def test_unlike_sizes(self):
        sizes = ((1, 1), (1, 2), (2, 1), (2, 2), (4, 1), (1, 4), (3, 2), (2, 3), (8, 8), (8, 7))
        for wide, high in sizes:
            for size in sizes:
                if (wide, high) != size:
                    with self.assertRaises(NoMerge) as caught:
                        unlike_places(plain(wide, high), plain(size[0], size[1]))
                    self.assertIs(type(caught.exception), NoMerge)
                    self.assertIsInstance(caught.exception, GlazeError)


class Mean(unittest.TestCase):
    def test_one_spot(self):
        for spot in SPOTS:
            self.assertEqual(mean_spot(plain(1, 1, spot)), spot)
            self.assertEqual(mean_spot(plain(3, 5, spot)), spot)

    def test_by_hand(self):
        self.assertEqual(mean_spot((2, 1, (CLEAR, WHITE))), (HALF, HALF, HALF, HALF))
        self.assertEqual(mean_spot((1, 3, (RED, BLACK, CLEAR))), ((2, 3), (1, 3), ZERO, ZERO))
        # Twice 1/2 and once 1 and 0 make 2 of 4: the least form is 1/2.
        half = (HALF, HALF, ZERO, ZERO)
        self.assertEqual(mean_spot((2, 2, (half, half, RED, CLEAR))), (HALF, HALF, ZERO, ZERO))

    def test_each_part_by_itself(self):
        one = ((3, 4), (1, 4), (1, 3), (3, 4))
        other = (ONE, (3, 4), (2, 3), ZERO)
        self.assertEqual(mean_spot((2, 1, (one, other))), ((7, 8), HALF, HALF, (3, 8)))

    def test_drawn_sheets(self):
        huge = (2, 2, (SPOTS[10], SPOTS[4], SPOTS[10], SPOTS[9]))
        for sheet in SHEETS + [huge]:
            told = mean_spot(sheet)
            self.assertTrue(is_sound_spot(told), told)
            parts = zip(*[fractions_of(spot) for spot in sheet[2]])
            self.assertEqual(told, tuple(share(Fraction(sum(part), len(sheet[2]))) for part in parts))


class Seen(unittest.TestCase):
    def test_a_clear_sheet(self):
        for wide, high in ((1, 1), (3, 2), (8, 8)):
            self.assertIsNone(seen_box(plain(wide, high, CLEAR)))

    def test_all_seen(self):
        for wide, high in ((1, 1), (3, 2), (8, 8)):
            for spot in SPOTS[1:]:
                self.assertEqual(seen_box(plain(wide, high, spot)), (0, 0, wide, high))

    def test_one_spot_at_each_place(self):
        for wide, high in ((1, 1), (3, 2), (4, 4), (8, 1), (1, 8)):
            for number in range(wide * high):
                for spot in (PALE, BLACK, ((1, HUGE), ZERO, ZERO, ZERO)):
                    spots = [CLEAR] * (wide * high)
                    spots[number] = spot
                    self.assertEqual(seen_box(sheet_of(wide, spots)), (number % wide, number // wide, 1, 1))

    def test_spots_apart(self):
        for places, wanted in (
            (((0, 0), (3, 2)), (0, 0, 4, 3)), (((3, 0), (0, 2)), (0, 0, 4, 3)), (((1, 1), (2, 1)), (1, 1, 2, 1)),
            (((1, 0), (2, 2)), (1, 0, 2, 3)), (((3, 1), (3, 2)), (3, 1, 1, 2)),
            (((0, 1), (2, 2), (1, 0)), (0, 0, 3, 3)),
        ):
            spots = [CLEAR] * 12
            for x, y in places:
                spots[y * 4 + x] = RED
            self.assertEqual(seen_box(sheet_of(4, spots)), wanted)

    def test_outside_nothing_is_seen(self):
        draws = Draws(63)
        for turn in range(300):
            wide, high = draws.below(5) + 1, draws.below(5) + 1
            sheet = sheet_of(wide, [draws.one_of((CLEAR, CLEAR, CLEAR, PALE)) for _ in range(wide * high)])
            seen = places_with(sheet, lambda spot: spot != CLEAR)
            self.assertEqual(seen_box(sheet), box_round(seen))
            self.assertTrue(set(seen) <= set(places_of_box(seen_box(sheet))))


class NotChanged(unittest.TestCase):
    def test_what_is_handed_in(self):
        before = copy.deepcopy(SHEETS)
        for sheet in SHEETS:
            kinds_in(sheet)
            unlike_places(sheet, sheet)
            mean_spot(sheet)
            seen_box(sheet)
        self.assertEqual(SHEETS, before)


if __name__ == "__main__":
    unittest.main()
