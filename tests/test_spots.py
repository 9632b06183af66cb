"""1.2 to 1.5, and 0.2 (a) and 0.3 as far as they speak of spots."""

import copy
import itertools
import unittest
from fractions import Fraction

from glazework.spots import blended, is_spot, levels, straight, toned, weighted
from bydocument import blended_by_document, is_sound_spot, toned_by_document
from samples import (
    BLACK, CLEAR, HALF, HUGE, MANNERS, ONE, OTHER_THINGS, RULES, SPOTS, STRENGTHS, WHITE, ZERO,
    fraction, fractions_of, share,
)


class SpotCase(unittest.TestCase):
    def sound(self, spot):
        self.assertTrue(is_sound_spot(spot), spot)
        self.assertIs(is_spot(spot), True, spot)


class IsSpot(unittest.TestCase):
    def accepted(self, thing):
        self.assertIs(is_spot(thing), True, thing)

    def refused(self, thing):
        self.assertIs(is_spot(thing), False, thing)

    def test_spots(self):
        for spot in SPOTS:
            self.accepted(spot)

    def test_a_colour_as_great_as_the_cover(self):
        self.accepted(((1, 3), (1, 3), (1, 3), (1, 3)))

    def test_a_colour_greater_than_the_cover(self):
        for number in (1, 2, 3):
            for cover, colour in (((1, 3), HALF), (ZERO, (1, HUGE)), ((HUGE - 1, HUGE), (HUGE, HUGE + 1))):
                parts = [cover, ZERO, ZERO, ZERO]
                parts[number] = colour
                self.refused(tuple(parts))

    def test_a_part_that_is_no_share(self):
        for part in ((2, 4), (0, 2), (3, 2), (-1, 2), (1, 0), (1, -1), (True, 1), (0, True), [0, 1], 0, 1, None, "0"):
            for number in range(4):
                parts = [ONE, ZERO, ZERO, ZERO]
                parts[number] = part
                self.refused(tuple(parts))

    def test_too_few_or_too_many(self):
        for many in (0, 1, 2, 3, 5, 8):
            self.refused((ZERO,) * many)
            self.refused((ONE,) * many)

    def test_lists_are_no_tuples(self):
        self.refused([ZERO, ZERO, ZERO, ZERO])
        self.refused([[0, 1], [0, 1], [0, 1], [0, 1]])
        self.refused(([1, 1], [0, 1], [0, 1], [0, 1]))

    def test_any_other_thing(self):
        for thing in OTHER_THINGS + STRENGTHS:
            self.refused(thing)
            self.refused((thing,))
            self.refused([thing] * 4)

    def test_other_things_as_parts(self):
        for thing in OTHER_THINGS:
            self.refused((thing, ZERO, ZERO, ZERO))
            self.refused((ONE, ZERO, ZERO, thing))

    def test_nothing_is_changed(self):
        for thing in OTHER_THINGS + SPOTS:
            before = copy.deepcopy(thing)
            is_spot(thing)
            self.assertEqual(thing, before)


class Weighted(SpotCase):
    def test_each_of_the_four(self):
        for spot in SPOTS:
            for weight in STRENGTHS:
                told = weighted(spot, weight)
                self.sound(told)
                self.assertEqual(fractions_of(told), [part * fraction(weight) for part in fractions_of(spot)])

    def test_by_one_and_by_nought(self):
        for spot in SPOTS:
            self.assertEqual(weighted(spot, ONE), spot)
            self.assertEqual(weighted(spot, ZERO), CLEAR)

    def test_least_form(self):
        self.assertEqual(weighted((ONE, (2, 3), HALF, ZERO), (3, 4)), ((3, 4), (1, 2), (3, 8), ZERO))


class Blended(SpotCase):
    def test_each_manner_by_its_formula(self):
        for manner in MANNERS:
            for above, below in itertools.product(SPOTS, SPOTS):
                with self.subTest(manner=manner, above=above, below=below):
                    told = blended(manner, above, below)
                    self.assertEqual(told, blended_by_document(manner, above, below))
                    self.sound(told)

    def test_written_answers(self):
        above = ((1, 2), (1, 2), (1, 4), ZERO)
        below = ((2, 3), (1, 3), (2, 3), (1, 6))
        wanted = {
            "over": ((5, 6), (2, 3), (7, 12), (1, 12)),
            "multiply": ((5, 6), (1, 2), (7, 12), (1, 12)),
            "screen": ((5, 6), (2, 3), (3, 4), (1, 6)),
            "plus": (ONE, (5, 6), (11, 12), (1, 6)),
            "atop": ((2, 3), (1, 2), (1, 2), (1, 12)),
            "cut": ((1, 3), (1, 6), (1, 3), (1, 12)),
        }
        for manner in MANNERS:
            self.assertEqual(blended(manner, above, below), wanted[manner], manner)

    def test_plus_goes_to_one_at_most(self):
        self.assertEqual(blended("plus", WHITE, WHITE), WHITE)
        spot = ((3, 4), (3, 4), (1, 2), (1, 4))
        self.assertEqual(blended("plus", spot, spot), (ONE, ONE, ONE, HALF))
        spot = ((2, 3), (1, 3), (1, 3), (1, 3))
        self.assertEqual(blended("plus", spot, spot), (ONE, (2, 3), (2, 3), (2, 3)))
        self.assertEqual(blended("plus", (HALF, HALF, ZERO, ZERO), (HALF, HALF, ZERO, ZERO)), (ONE, ONE, ZERO, ZERO))

    def test_full_cover_above(self):
        for below in SPOTS:
            self.assertEqual(blended("over", BLACK, below), BLACK)
            self.assertEqual(blended("cut", WHITE, below), CLEAR)

    def test_two_spots_blended_are_a_spot(self):
        small = [(0, 1), (1, 3), (1, 2), (1, 1)]
        spots = [(cover, one, other, cover) for cover, one, other in itertools.product(small, small, small)]
        spots = [spot for spot in spots if is_sound_spot(spot)]
        for manner in MANNERS:
            for above, below in itertools.product(spots, spots):
                self.sound(blended(manner, above, below))

    def test_taken_together_from_either_end(self):
        for manner in ("over", "multiply", "screen", "plus"):
            for one, two, three in itertools.product(SPOTS, SPOTS, SPOTS):
                from_above = blended(manner, blended(manner, one, two), three)
                from_below = blended(manner, one, blended(manner, two, three))
                self.assertEqual(from_above, from_below, (manner, one, two, three))

    def test_in_either_order(self):
        for manner in ("multiply", "screen", "plus"):
            for one, other in itertools.product(SPOTS, SPOTS):
                self.assertEqual(blended(manner, one, other), blended(manner, other, one), (manner, one, other))

    def test_the_clear_spot_above_changes_nothing(self):
        for manner in MANNERS:
            for below in SPOTS:
                self.assertEqual(blended(manner, CLEAR, below), below, manner)


class Toned(SpotCase):
    def test_each_rule_by_the_document(self):
        for rule in RULES:
            for spot, strength in itertools.product(SPOTS, STRENGTHS):
                with self.subTest(rule=rule, spot=spot, strength=strength):
                    told = toned(rule, spot, strength)
                    self.assertEqual(told, toned_by_document(rule, spot, strength))
                    self.sound(told)
                    self.assertEqual(told[0], spot[0])

    def test_strength_nought_changes_nothing(self):
        for rule in RULES:
            for spot in SPOTS:
                self.assertEqual(toned(rule, spot, ZERO), spot)

    def test_written_answers(self):
        spot = ((3, 4), (1, 4), (1, 2), ZERO)
        self.assertEqual(toned("turn", spot, ONE), ((3, 4), (1, 2), (1, 4), (3, 4)))
        self.assertEqual(toned("grey", spot, ONE), ((3, 4), (1, 4), (1, 4), (1, 4)))
        self.assertEqual(toned("round", spot, ONE), ((3, 4), (1, 2), ZERO, (1, 4)))
        self.assertEqual(toned("turn", spot, HALF), ((3, 4), (3, 8), (3, 8), (3, 8)))
        self.assertEqual(toned("grey", spot, HALF), ((3, 4), (1, 4), (3, 8), (1, 8)))
        self.assertEqual(toned("round", spot, HALF), ((3, 4), (3, 8), (1, 4), (1, 8)))
        self.assertEqual(toned("round", spot, (1, 3)), ((3, 4), (1, 3), (1, 3), (1, 12)))

    def test_grey_where_the_sum_goes_beyond_one(self):
        self.assertEqual(toned("grey", WHITE, ONE), WHITE)
        self.assertEqual(toned("grey", (ONE, ONE, ONE, HALF), ONE), (ONE, (5, 6), (5, 6), (5, 6)))

    def test_the_clear_spot_stays_clear(self):
        for rule in RULES:
            for strength in STRENGTHS:
                self.assertEqual(toned(rule, CLEAR, strength), CLEAR)


class Straight(unittest.TestCase):
    def test_without_cover(self):
        self.assertIsNone(straight(CLEAR))

    def test_with_cover(self):
        for spot in SPOTS:
            if spot != CLEAR:
                wanted = tuple(share(colour / fraction(spot[0])) for colour in fractions_of(spot)[1:])
                self.assertEqual(straight(spot), wanted)

    def test_written_answers(self):
        self.assertEqual(straight((HALF, HALF, (1, 4), ZERO)), (ONE, HALF, ZERO))
        self.assertEqual(straight(((2, 3), (1, 2), (4, 9), (1, 6))), ((3, 4), (2, 3), (1, 4)))
        self.assertEqual(straight(((1, HUGE), (1, HUGE), (1, 2 * HUGE), ZERO)), (ONE, HALF, ZERO))
        self.assertEqual(straight(BLACK), (ZERO, ZERO, ZERO))


class Levels(unittest.TestCase):
    def test_nought_and_one(self):
        self.assertEqual(levels(CLEAR), (0, 0, 0, 0))
        self.assertEqual(levels(WHITE), (255, 255, 255, 255))
        self.assertEqual(levels(BLACK), (255, 0, 0, 0))

    def test_just_between_goes_to_the_greater(self):
        for number in range(255):
            between = share(Fraction(2 * number + 1, 510))
            self.assertEqual(levels((between,) * 4), (number + 1,) * 4)

    def test_a_little_off_the_middle(self):
        for number in range(255):
            middle = Fraction(2 * number + 1, 510)
            lower = share(middle - Fraction(1, HUGE))
            greater = share(middle + Fraction(1, HUGE))
            self.assertEqual(levels((greater, lower, greater, lower)), (number + 1, number, number + 1, number))

    def test_whole_levels(self):
        for number in range(256):
            self.assertEqual(levels((ONE, share(Fraction(number, 255)), ZERO, ONE)), (255, number, 0, 255))

    def test_each_of_the_four_in_its_place(self):
        self.assertEqual(levels((ONE, HALF, (1, 4), (1, 3))), (255, 128, 64, 85))
        self.assertEqual([type(part) for part in levels((ONE, HALF, (1, 4), (1, 3)))], [int] * 4)


if __name__ == "__main__":
    unittest.main()
