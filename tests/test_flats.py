"""4.1, 0.2 (b), and 0.3 as far as it speaks of what is shown."""

import copy
import unittest

from bydocument import blended_by_document, flat_by_document, is_sound_sheet, toned_by_document, weighted_by_document
from glazework.flats import flat, flat_at
from glazework.pictures import with_node
from samples import (
    BLACK, BROAD, CLEAR, DIM, HALF, MANNERS, ONE, PALE, PICTURES, RED, RULES, SPOTS, STRENGTHS, WHITE, ZERO,
    all_nodes, group, layer, picture, plain, sheet_of, tone,
)


def one_spot(spot, name="a", **parts):
    return layer(name, plain(1, 1, spot), **parts)


def shown(*nodes):
    return flat_at(picture(1, 1, nodes), 0, 0)


class Layers(unittest.TestCase):
    def test_no_nodes(self):
        self.assertEqual(flat(picture(3, 2)), plain(3, 2, CLEAR))

    def test_one_layer(self):
        self.assertEqual(flat(picture(3, 2, (layer("a", BROAD),))), BROAD)

    def test_not_shown(self):
        self.assertEqual(shown(one_spot(RED, shown=False)), CLEAR)
        for manner in MANNERS:
            self.assertEqual(shown(one_spot(DIM), one_spot(RED, "b", manner=manner, shown=False)), DIM)

    def test_each_manner(self):
        for manner in MANNERS:
            for above in SPOTS:
                for below in SPOTS:
                    told = shown(one_spot(below), one_spot(above, "b", manner=manner))
                    self.assertEqual(told, blended_by_document(manner, above, below), manner)

    def test_each_manner_above_nothing(self):
        wanted = {"over": PALE, "multiply": PALE, "screen": PALE, "plus": PALE, "atop": CLEAR, "cut": CLEAR}
        for manner in MANNERS:
            self.assertEqual(shown(one_spot(PALE, manner=manner)), wanted[manner])

    def test_strength(self):
        for strength in STRENGTHS:
            for manner in MANNERS:
                told = shown(one_spot(WHITE), one_spot(DIM, "b", manner=manner, strength=strength))
                self.assertEqual(told, blended_by_document(manner, weighted_by_document(DIM, strength), WHITE))
        self.assertEqual(shown(one_spot(RED, strength=HALF)), (HALF, HALF, ZERO, ZERO))

    def test_mask(self):
        mask = (ONE, ZERO, HALF, (1, 3), (2, 3), (5, 7))
        told = flat(picture(3, 2, (layer("a", BROAD, mask=mask),)))
        wanted = tuple(weighted_by_document(spot, weight) for spot, weight in zip(BROAD[2], mask))
        self.assertEqual(told, (3, 2, wanted))

    def test_mask_and_strength(self):
        self.assertEqual(shown(one_spot(RED, strength=HALF, mask=((1, 3),))), ((1, 6), (1, 6), ZERO, ZERO))

    def test_the_mask_goes_with_the_sheet(self):
        mask = (ONE, HALF, ZERO, ONE, ONE, ONE)
        told = flat(picture(2, 2, (layer("a", plain(3, 2, RED), left=-1, top=1, mask=mask),)))
        self.assertEqual(told, (2, 2, (CLEAR, CLEAR, (HALF, HALF, ZERO, ZERO), CLEAR)))

    def test_left_and_top(self):
        one, two, three, four, five, six = BROAD[2]
        wanted = {
            (1, 0): (CLEAR, one, two, CLEAR, four, five),
            (-1, 0): (two, three, CLEAR, five, six, CLEAR),
            (0, 1): (CLEAR, CLEAR, CLEAR, one, two, three),
            (0, -1): (four, five, six, CLEAR, CLEAR, CLEAR),
            (2, 1): (CLEAR, CLEAR, CLEAR, CLEAR, CLEAR, one),
            (-2, -1): (six, CLEAR, CLEAR, CLEAR, CLEAR, CLEAR),
        }
        for (left, top), spots in wanted.items():
            self.assertEqual(flat(picture(3, 2, (layer("a", BROAD, left=left, top=top),))), (3, 2, spots), (left, top))

    def test_wholly_outside(self):
        for left, top in ((3, 0), (-3, 0), (0, 2), (0, -2), (9, 9), (-9, -9), (12, 0), (0, -30)):
            for mask in (None, (ONE,) * 6):
                one = picture(3, 2, (layer("b", plain(3, 2, DIM)), layer("a", BROAD, left=left, top=top, mask=mask)))
                self.assertEqual(flat(one), plain(3, 2, DIM), (left, top))

    def test_the_lowest_first(self):
        self.assertEqual(shown(one_spot(RED), one_spot(BLACK, "b")), BLACK)
        self.assertEqual(shown(one_spot(BLACK), one_spot(RED, "b")), RED)


class Tones(unittest.TestCase):
    def test_each_rule(self):
        for rule in RULES:
            for strength in STRENGTHS:
                for spot in SPOTS:
                    told = shown(one_spot(spot), tone("b", rule, strength))
                    self.assertEqual(told, toned_by_document(rule, spot, strength))

    def test_as_the_lowest(self):
        for rule in RULES:
            self.assertEqual(shown(tone("b", rule)), CLEAR)
            self.assertEqual(shown(tone("b", rule), one_spot(DIM)), DIM)

    def test_not_shown(self):
        for rule in RULES:
            self.assertEqual(shown(one_spot(RED), tone("b", rule, ONE, False)), RED)

    def test_changes_what_is_below_alone(self):
        self.assertEqual(shown(one_spot(RED), tone("b", "round"), one_spot(BLACK, "c", strength=HALF)),
                         (ONE, ZERO, ZERO, HALF))

    def test_within_a_group_changes_the_group_alone(self):
        blue = (ONE, ZERO, ZERO, ONE)
        inner = group("g", (layer("b", plain(1, 1, RED), left=1), tone("t", "round")))
        self.assertEqual(flat(picture(2, 1, (layer("a", plain(2, 1, RED)), inner))), (2, 1, (RED, blue)))


class Groups(unittest.TestCase):
    def test_begins_clear(self):
        for manner in MANNERS:
            told = shown(one_spot(RED), group("g", (one_spot(DIM, "b", manner=manner),)))
            wanted = RED if manner in ("atop", "cut") else blended_by_document("over", DIM, RED)
            self.assertEqual(told, wanted, manner)

    def test_each_manner_and_strength(self):
        for manner in MANNERS:
            for strength in STRENGTHS:
                inner = (one_spot(DIM, "b"), one_spot(PALE, "c", manner="plus"))
                told = shown(one_spot(WHITE), group("g", inner, manner, strength))
                spot = weighted_by_document(blended_by_document("plus", PALE, DIM), strength)
                self.assertEqual(told, blended_by_document(manner, spot, WHITE))

    def test_not_shown_and_without_nodes(self):
        for manner in MANNERS:
            self.assertEqual(shown(one_spot(PALE), group("g", (one_spot(RED, "b"),), manner, ONE, False)), PALE)
            self.assertEqual(shown(one_spot(PALE), group("g", (), manner)), PALE)

    def test_groups_within_groups(self):
        inner = group("i", (one_spot(RED, "x"),), "over", HALF)
        middle = group("m", (inner, tone("t", "turn")), "plus", HALF)
        outer = group("o", (middle, one_spot(BLACK, "y", manner="atop", strength=HALF)), "over", ONE)
        self.assertEqual(shown(inner), (HALF, HALF, ZERO, ZERO))
        self.assertEqual(shown(middle), ((1, 4), ZERO, (1, 4), (1, 4)))
        self.assertEqual(shown(outer), ((1, 4), ZERO, (1, 8), (1, 8)))

    def test_somewhat_deeper(self):
        nodes = (one_spot(DIM),)
        for name in "bcdefg":
            nodes = (group(name, nodes),)
        self.assertEqual(shown(*nodes), DIM)


class Whole(unittest.TestCase):
    def test_pictures_by_the_document(self):
        for one in PICTURES:
            told = flat(one)
            self.assertTrue(is_sound_sheet(told))
            self.assertEqual(told, flat_by_document(one))

    def test_flat_against_flat_at(self):
        for one in PICTURES:
            spots = tuple(flat_at(one, x, y) for y in range(one[1]) for x in range(one[0]))
            self.assertEqual(flat(one), (one[0], one[1], spots))

    def test_row_by_row(self):
        sheet = sheet_of(8, [SPOTS[number % 7] for number in range(64)])
        one = picture(8, 8, (layer("a", sheet),))
        self.assertEqual(flat(one), sheet)
        self.assertEqual(flat_at(one, 5, 2), SPOTS[21 % 7])

    def test_node_by_node(self):
        for one in PICTURES:
            wide, high, nodes = one
            for many in range(len(nodes)):
                below = flat((wide, high, nodes[:many]))
                told = flat((wide, high, nodes[:many + 1]))
                self.assertEqual(flat((wide, high, (layer("below", below), nodes[many]))), told)

    def test_a_group_shows_what_a_layer_with_its_sheet_would(self):
        for one in PICTURES:
            for node, nodes in all_nodes(one[2]):
                if node[0] == "group":
                    sheet = flat((one[0], one[1], node[5]))
                    other = layer(node[1], sheet, node[2], node[3], node[4])
                    self.assertEqual(flat(with_node(one, node[1], other)), flat(one))

    def test_what_is_handed_in_is_not_changed(self):
        for one in PICTURES[:20]:
            before = copy.deepcopy(one)
            flat(one)
            flat_at(one, 0, 0)
            self.assertEqual(one, before)


if __name__ == "__main__":
    unittest.main()
