"""7.1, 0.2 (e) and 0.3 as far as they speak of boxes."""

import copy
import itertools
import unittest

from bydocument import (
    box_by_document, box_round, flat_by_document, places_by_document, places_of_box, shown_by_document,
)
from glazework.boxes import box_of, changed_box, joined_box
from glazework.pictures import with_node
from samples import (
    BLACK, CLEAR, DIM, HALF, ONE, PICTURES, RED, RULES, WHITE, ZERO,
    Draws, all_nodes, group, layer, picture, plain, sheet_of, tone,
)


class Joined(unittest.TestCase):
    def test_none(self):
        self.assertIsNone(joined_box(None, None))
        self.assertEqual(joined_box((1, 2, 3, 4), None), (1, 2, 3, 4))
        self.assertEqual(joined_box(None, (0, 0, 1, 1)), (0, 0, 1, 1))

    def test_the_same(self):
        self.assertEqual(joined_box((1, 2, 3, 4), (1, 2, 3, 4)), (1, 2, 3, 4))

    def test_within_one_another(self):
        self.assertEqual(joined_box((0, 0, 8, 8), (2, 3, 1, 2)), (0, 0, 8, 8))
        self.assertEqual(joined_box((2, 3, 1, 2), (1, 1, 4, 5)), (1, 1, 4, 5))

    def test_side_by_side(self):
        self.assertEqual(joined_box((0, 0, 2, 3), (2, 0, 1, 3)), (0, 0, 3, 3))
        self.assertEqual(joined_box((1, 4, 2, 1), (1, 3, 2, 1)), (1, 3, 2, 2))

    def test_apart(self):
        self.assertEqual(joined_box((0, 0, 1, 1), (7, 7, 1, 1)), (0, 0, 8, 8))
        self.assertEqual(joined_box((5, 1, 2, 1), (1, 6, 1, 2)), (1, 1, 6, 7))

    def test_partly_over_one_another(self):
        self.assertEqual(joined_box((0, 2, 4, 2), (2, 0, 3, 3)), (0, 0, 5, 4))

    def test_all_small_ones(self):
        boxes = [None] + list(itertools.product((0, 1, 3), (0, 2), (1, 2, 4), (1, 3)))
        for one, other in itertools.product(boxes, boxes):
            wanted = box_round(places_of_box(one) + places_of_box(other))
            self.assertEqual(joined_box(one, other), wanted, (one, other))


class BoxOf(unittest.TestCase):
    ONE = picture(4, 3)

    def told(self, node):
        return box_of(self.ONE, node)

    def test_a_layer_within(self):
        self.assertEqual(self.told(layer("a", plain(2, 1), left=1, top=2)), (1, 2, 2, 1))
        self.assertEqual(self.told(layer("a", plain(4, 3))), (0, 0, 4, 3))
        self.assertEqual(self.told(layer("a", plain(1, 1), left=3, top=2)), (3, 2, 1, 1))

    def test_a_layer_partly_outside(self):
        self.assertEqual(self.told(layer("a", plain(3, 2), left=-1)), (0, 0, 2, 2))
        self.assertEqual(self.told(layer("a", plain(3, 2), left=2)), (2, 0, 2, 2))
        self.assertEqual(self.told(layer("a", plain(3, 2), top=-1)), (0, 0, 3, 1))
        self.assertEqual(self.told(layer("a", plain(3, 2), top=2)), (0, 2, 3, 1))
        self.assertEqual(self.told(layer("a", plain(8, 8), left=-2, top=-3)), (0, 0, 4, 3))

    def test_a_layer_wholly_outside(self):
        for left, top in ((-2, 0), (4, 0), (0, -2), (0, 3), (9, 9), (-9, 1), (-9, -9), (1, 12)):
            self.assertIsNone(self.told(layer("a", plain(2, 2), left=left, top=top)), (left, top))

    def test_the_last_row_or_column(self):
        self.assertEqual(self.told(layer("a", plain(2, 2), left=-1, top=-1)), (0, 0, 1, 1))
        self.assertEqual(self.told(layer("a", plain(2, 2), left=3, top=2)), (3, 2, 1, 1))

    def test_not_shown(self):
        for node in (layer("a", shown=False), group("a", (layer("b"),), shown=False), tone("a", shown=False)):
            self.assertIsNone(self.told(node))

    def test_what_is_on_the_sheet_does_not_count(self):
        node = layer("a", plain(2, 2, CLEAR), "cut", ZERO, mask=(ZERO,) * 4)
        self.assertEqual(self.told(node), (0, 0, 2, 2))

    def test_a_tone(self):
        for rule in RULES:
            self.assertEqual(self.told(tone("a", rule)), (0, 0, 4, 3))
            self.assertEqual(self.told(tone("a", rule, ZERO)), (0, 0, 4, 3))

    def test_a_group(self):
        one, other = layer("b", plain(1, 1)), layer("c", plain(1, 1), left=2, top=1)
        self.assertEqual(self.told(group("a", (one,))), (0, 0, 1, 1))
        self.assertEqual(self.told(group("a", (one, other))), (0, 0, 3, 2))
        self.assertEqual(self.told(group("a", (group("d", (other,)), one), "cut", ZERO)), (0, 0, 3, 2))

    def test_a_group_of_tones_alone(self):
        self.assertIsNone(self.told(group("a", (tone("b"), tone("c")))))
        self.assertIsNone(self.told(group("a", (group("d", (tone("b"),)), tone("c")))))

    def test_a_group_of_no_nodes(self):
        self.assertIsNone(self.told(group("a")))
        self.assertIsNone(self.told(group("a", (group("b"), group("c")))))

    def test_a_group_of_nodes_that_are_not_shown_or_outside(self):
        hidden = (layer("b", shown=False), group("c", (layer("d"),), shown=False), layer("e", left=9))
        self.assertIsNone(self.told(group("a", hidden)))
        self.assertEqual(self.told(group("a", hidden + (layer("f", plain(1, 1), left=3),))), (3, 0, 1, 1))

    def test_a_tone_within_a_group(self):
        self.assertEqual(self.told(group("a", (layer("b", plain(1, 1), left=1), tone("c")))), (1, 0, 1, 1))

    def test_pictures_by_the_document(self):
        for one in PICTURES:
            for node, nodes in all_nodes(one[2]):
                self.assertEqual(box_of(one, node), box_by_document(one, node))

    def test_a_node_of_another_picture(self):
        for one, other in zip(PICTURES, PICTURES[1:]):
            for node, nodes in all_nodes(other[2]):
                self.assertEqual(box_of(one, node), box_by_document(one, node))


class ChangedBox(unittest.TestCase):
    def test_the_same_picture(self):
        for one in PICTURES[:30]:
            self.assertIsNone(changed_box(one, one))

    def test_two_that_show_the_same(self):
        self.assertIsNone(changed_box(picture(2, 2), picture(2, 2, (layer("a", plain(2, 2, CLEAR)), tone("b")))))
        full = layer("c", plain(2, 2, WHITE))
        self.assertIsNone(changed_box(picture(2, 2, (layer("a"), full)), picture(2, 2, (layer("b", left=1), full))))

    def test_at_one_place(self):
        one = picture(4, 3, (layer("a", plain(4, 3, BLACK)),))
        for x, y in places_by_document(one):
            other = picture(4, 3, one[2] + (layer("b", plain(1, 1, RED), left=x, top=y),))
            self.assertEqual(changed_box(one, other), (x, y, 1, 1))
            self.assertEqual(changed_box(other, one), (x, y, 1, 1))

    def test_at_two_places_apart(self):
        dots = (layer("b", plain(1, 1, RED), left=3), layer("c", plain(1, 1, RED), left=1, top=2))
        self.assertEqual(changed_box(picture(4, 3), picture(4, 3, dots)), (1, 0, 3, 3))
        self.assertEqual(changed_box(picture(4, 3, dots[:1]), picture(4, 3, dots[1:])), (1, 0, 3, 3))

    def test_everywhere(self):
        self.assertEqual(changed_box(picture(8, 8), picture(8, 8, (layer("a", plain(8, 8)),))), (0, 0, 8, 8))

    def test_one_of_the_four_alone(self):
        for number in range(4):
            parts = [ONE, HALF, HALF, HALF]
            parts[number] = (2, 3)
            one = picture(2, 1, (layer("a", plain(2, 1, (ONE, HALF, HALF, HALF))),))
            other = picture(2, 1, (layer("a", sheet_of(2, ((ONE, HALF, HALF, HALF), tuple(parts)))),))
            self.assertEqual(changed_box(one, other), (1, 0, 1, 1))

    def test_pictures_by_the_document(self):
        for one in PICTURES:
            for node, nodes in all_nodes(one[2])[:4]:
                other = with_node(one, node[1], layer(node[1], plain(1, 2, DIM), left=1))
                shown = zip(places_by_document(one), flat_by_document(one)[2], flat_by_document(other)[2])
                wanted = box_round([place for place, old, new in shown if old != new])
                self.assertEqual(changed_box(one, other), wanted)


class NothingOutsideTheBox(unittest.TestCase):
    def test_another_node_of_a_name(self):
        draws = Draws(5)
        for one in PICTURES:
            for node, nodes in all_nodes(one[2]):
                node_now = draws.node([node[1]], one[0], one[1], 0)
                self.asked(one, node, node_now)
                self.asked(one, node, node[:4] + (not node[4],) + node[5:])
                self.asked(one, node, node[:3] + ((1, 7),) + node[4:])

    def asked(self, one, node, node_now):
        other = with_node(one, node[1], node_now)
        box = joined_box(box_of(one, node), box_of(one, node_now))
        for x, y in sorted(set(places_by_document(one)) - set(places_of_box(box))):
            old, new = shown_by_document(one[2], x, y), shown_by_document(other[2], x, y)
            self.assertEqual(old, new, (one, node_now, x, y))

    def test_what_is_handed_in_is_not_changed(self):
        for one, other in zip(PICTURES[:10], PICTURES[10:20]):
            before = copy.deepcopy((one, other))
            for node in other[2]:
                box_of(one, node)
            changed_box(one, (one[0], one[1], other[2]))
            self.assertEqual((one, other), before)


if __name__ == "__main__":
    unittest.main()
