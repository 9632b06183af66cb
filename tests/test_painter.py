"""7.2, 0.2 (e), and 0.3 as far as it speaks of painters."""

import copy
import unittest

from bydocument import box_by_document, box_round, flat_by_document, places_of_box
from glazework.errors import NoName
from glazework.painter import Painter
from glazework.pictures import with_node
from samples import (
    BLACK, CLEAR, DIM, HALF, PICTURES, RED, WHITE,
    Draws, all_nodes, group, layer, picture, plain, tone,
)

GROUND = layer("ground", plain(4, 3, WHITE))
DOT = layer("dot", plain(1, 1, RED), left=1, top=1)
START = picture(4, 3, (GROUND, DOT, group("box", (layer("in", plain(2, 1, BLACK), left=2), tone("t")), "plus", HALF)))


class Paints(unittest.TestCase):
    def asked(self, painter, wanted, painted):
        self.assertEqual(painter.now(), wanted)
        self.assertEqual(painter.shown(), flat_by_document(wanted))
        self.assertEqual(painter.painted(), painted)

    def test_all_places_at_first(self):
        for one in PICTURES + (START, picture(8, 8), picture(1, 1)):
            self.asked(Painter(one), one, one[0] * one[1])

    def test_give_tells_nothing(self):
        self.assertIsNone(Painter(START).give(DOT))

    def test_the_box_of_both(self):
        painter = Painter(START)
        dot = layer("dot", plain(1, 1, DIM), left=3, top=2)
        painter.give(dot)
        self.asked(painter, with_node(START, "dot", dot), 12 + 6)
        painter.give(dot)
        self.asked(painter, with_node(START, "dot", dot), 12 + 6 + 1)

    def test_a_tone_paints_all(self):
        painter = Painter(START)
        painter.give(tone("dot", "grey"))
        self.asked(painter, with_node(START, "dot", tone("dot", "grey")), 24)

    def test_within_a_group(self):
        painter = Painter(START)
        node = layer("in", plain(1, 2, DIM), left=3, top=1)
        painter.give(node)
        self.asked(painter, with_node(START, "in", node), 12 + 6)

    def test_a_group_for_a_layer(self):
        painter = Painter(START)
        node = group("dot", (tone("x"), layer("y", plain(1, 1, BLACK), top=1), layer("z", shown=False)))
        painter.give(node)
        self.asked(painter, with_node(START, "dot", node), 12 + 2)

    def test_only_one_of_both_has_a_box(self):
        painter = Painter(START)
        hidden = DOT[:4] + (False,) + DOT[5:]
        painter.give(hidden)
        self.asked(painter, with_node(START, "dot", hidden), 12 + 1)
        painter.give(DOT)
        self.asked(painter, START, 12 + 2)

    def test_where_the_box_is_none(self):
        hidden = DOT[:4] + (False,) + DOT[5:]
        outside = layer("dot", plain(2, 2, RED), left=-9)
        start = with_node(START, "dot", hidden)
        painter = Painter(start)
        for node in (outside, group("dot"), group("dot", (tone("x"),)), tone("dot", shown=False), hidden):
            painter.give(node)
            self.asked(painter, with_node(start, "dot", node), 12)

    def test_the_same_node_is_painted_anew_too(self):
        painter = Painter(START)
        painter.give(GROUND)
        self.asked(painter, START, 24)

    def test_no_name(self):
        painter = Painter(START)
        painter.give(tone("t", "grey"))
        now = with_node(START, "t", tone("t", "grey"))
        for node in (tone("none"), layer("dots"), group("none", (layer("dot"),))):
            with self.assertRaises(NoName) as caught:
                painter.give(node)
            self.assertIs(type(caught.exception), NoName)
            self.asked(painter, now, 24)
        with self.assertRaises(NoName):
            Painter(picture(1, 1)).give(tone("a"))

    def test_a_name_that_went_with_its_group(self):
        painter = Painter(START)
        painter.give(tone("box"))
        with self.assertRaises(NoName):
            painter.give(layer("in"))
        self.asked(painter, with_node(START, "box", tone("box")), 24)

    def test_two_painters_go_by_themselves(self):
        one, other = Painter(START), Painter(START)
        one.give(tone("dot"))
        self.asked(other, START, 12)
        node = layer("in", plain(1, 1, RED))
        other.give(node)
        self.asked(one, with_node(START, "dot", tone("dot")), 24)
        self.asked(other, with_node(START, "in", node), 12 + 4)

    def test_what_was_told_stays(self):
        painter = Painter(START)
        sheet, now = painter.shown(), painter.now()
        painter.give(layer("ground", plain(4, 3, BLACK)))
        self.assertEqual((sheet, now), (flat_by_document(START), START))

    def test_what_is_handed_in_is_not_changed(self):
        before = copy.deepcopy((START, DOT))
        painter = Painter(START)
        painter.give(DOT)
        painter.give(tone("dot"))
        self.assertEqual((START, DOT), before)

    def test_a_clear_picture(self):
        self.assertEqual(Painter(picture(2, 1)).shown(), plain(2, 1, CLEAR))
        self.assertEqual(Painter(picture(2, 1)).painted(), 2)

    def test_one_give_behind_another(self):
        draws = Draws(11)
        for one in PICTURES:
            painter = Painter(one)
            painted = one[0] * one[1]
            for turn in range(6):
                nodes = [node for node, beside in all_nodes(one[2])]
                if nodes:
                    old = draws.one_of(nodes)
                    new = draws.node([old[1]], one[0], one[1], 0)
                    boxes = box_by_document(one, old), box_by_document(one, new)
                    painted += len(places_of_box(box_round(places_of_box(boxes[0]) + places_of_box(boxes[1]))))
                    one = with_node(one, old[1], new)
                    painter.give(new)
                    self.asked(painter, one, painted)


if __name__ == "__main__":
    unittest.main()
