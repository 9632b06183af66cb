"""6.1 to 6.3, 0.2 (d), and 0.3 as far as it speaks of nodes made one, opened and swapped."""

import copy
import unittest

from bydocument import all_brought, blended_by_document, flat_by_document, is_sound_picture
from glazework.errors import NoMerge, NoName, NoOpen, NoSwap
from glazework.merging import merged, opened, swapped
from samples import (
    BROAD, CLEAR, DIM, HALF, HUGE, MANNERS, ONE, PALE, PICTURES, RED, RULES, SPOTS, WHITE, ZERO,
    all_nodes, group, layer, picture, plain, sheet_of, tone,
)

FOUR = ("over", "multiply", "screen", "plus")
THREE = ("multiply", "screen", "plus")
ALMOST = (HUGE - 1, HUGE)
DIM_SHEET = plain(2, 2, DIM)


def two_groups(nodes):
    """A picture with nodes within a group within a group, each of its own parts."""
    inner = group("h", nodes, "cut", HALF, False)
    return picture(1, 1, (layer("x"), group("g", (inner,), "atop", (1, 3)), tone("y")))


class MergingCase(unittest.TestCase):
    def refused(self, error, deed, one, name):
        before = copy.deepcopy(one)
        with self.assertRaises(error) as caught:
            deed(one, name)
        self.assertIs(type(caught.exception), error, (one, name))
        self.assertEqual(one, before)

    def shows_the_same(self, told, one):
        self.assertTrue(is_sound_picture(told), told)
        self.assertEqual(flat_by_document(told), flat_by_document(one))


class Merged(MergingCase):
    def merges(self, lower, upper):
        """Asks for the node that comes of two, part by part, with others below and above."""
        one = picture(2, 2, (layer("base", plain(2, 2, DIM)), lower, upper, tone("top", "round", HALF)))
        told = merged(one, upper[1])
        sheet = told[2][1][8]
        self.assertEqual(len(told[2]), 3)
        self.assertEqual(told[2][1], ("layer", lower[1], lower[2], (1, 1), True, 0, 0, None, sheet))
        self.assertEqual((told[0], told[1], told[2][0], told[2][2]), (2, 2, one[2][0], one[2][3]))
        spots = [blended_by_document(lower[2], above, below)
                 for above, below in zip(all_brought(one, upper), all_brought(one, lower))]
        self.assertEqual(sheet, (2, 2, tuple(spots)))
        self.shows_the_same(told, one)

    def lower_ones(self, manner):
        return (
            layer("low", BROAD, manner, HALF, True, -1, 0, (ONE, HALF, ZERO, (1, 3), ONE, ONE)),
            group("low", (layer("x", BROAD), tone("y", "grey"), layer("z", shown=False)), manner, (2, 3)),
        )

    def upper_ones(self, manner):
        return (
            layer("up", plain(1, 2, PALE), manner, (3, 4), True, 1, 1),
            layer("up", plain(2, 2, WHITE), manner),
            group("up", (layer("v", plain(2, 1, RED), "plus", HALF), group("u", (layer("w"),), "cut")), manner, HALF),
            group("up", (), manner),
        )

    def test_each_manner_of_layers_and_groups(self):
        for manner in FOUR:
            for lower in self.lower_ones(manner):
                for upper in self.upper_ones(manner):
                    with self.subTest(manner=manner, lower=lower[0], upper=upper[0]):
                        self.merges(lower, upper)

    def test_atop_and_cut(self):
        for manner in ("atop", "cut"):
            for lower in self.lower_ones(manner):
                for upper in self.upper_ones(manner):
                    self.refused(NoMerge, merged, picture(2, 2, (lower, upper)), "up")

    def test_a_written_answer(self):
        half_red = (HALF, HALF, ZERO, ZERO)
        one = picture(2, 1, (layer("a", plain(2, 1, WHITE)), layer("b", plain(1, 1, half_red), left=1)))
        sheet = (2, 1, (WHITE, (ONE, ONE, HALF, HALF)))
        self.assertEqual(merged(one, "b"), picture(2, 1, (layer("a", sheet),)))

    def test_the_upper_one_is_above(self):
        one = picture(1, 1, (layer("a", plain(1, 1, WHITE)), layer("b", plain(1, 1, RED))))
        self.assertEqual(merged(one, "b"), picture(1, 1, (layer("a", plain(1, 1, RED)),)))

    def test_the_sheet_is_of_the_size_of_the_picture(self):
        one = picture(3, 1, (layer("a", plain(8, 8, RED), left=-9, top=-9), layer("b", plain(1, 1, DIM), left=2)))
        self.assertEqual(merged(one, "b"), picture(3, 1, (layer("a", (3, 1, (CLEAR, CLEAR, DIM))),)))

    def test_the_lowest_node(self):
        one = picture(1, 1, (layer("a"), layer("b"), group("c", (layer("d"), layer("e")))))
        self.refused(NoMerge, merged, one, "a")
        self.refused(NoMerge, merged, one, "d")
        self.refused(NoMerge, merged, picture(1, 1, (group("c", (layer("d"),)),)), "d")

    def test_one_not_shown(self):
        for manner in FOUR:
            hidden = layer("a", manner=manner, shown=False)
            self.refused(NoMerge, merged, picture(1, 1, (hidden, layer("b", manner=manner))), "b")
            hidden = group("b", (layer("c"),), manner, ONE, False)
            self.refused(NoMerge, merged, picture(1, 1, (layer("a", manner=manner), hidden)), "b")

    def test_unlike_manners(self):
        for lower in MANNERS:
            for upper in MANNERS:
                if lower != upper:
                    one = picture(1, 1, (layer("a", manner=lower), layer("b", manner=upper)))
                    self.refused(NoMerge, merged, one, "b")

    def test_a_tone_among_them(self):
        for rule in RULES:
            self.refused(NoMerge, merged, picture(1, 1, (tone("a", rule), layer("b"))), "b")
            self.refused(NoMerge, merged, picture(1, 1, (layer("a"), tone("b", rule))), "b")
            self.refused(NoMerge, merged, picture(1, 1, (tone("a", rule), tone("b", rule))), "b")

    def test_within_a_group(self):
        lower, upper = layer("a", plain(1, 1, WHITE), "plus", HALF), layer("b", plain(1, 1, DIM), "plus")
        both = layer("a", plain(1, 1, (ONE, (5, 6), ONE, ONE)), "plus")
        one = two_groups((tone("t"), lower, upper, tone("u")))
        self.assertEqual(merged(one, "b"), two_groups((tone("t"), both, tone("u"))))

    def test_not_across_a_group(self):
        one = picture(1, 1, (layer("a"), group("g", (layer("b"),), "plus")))
        self.refused(NoMerge, merged, one, "b")
        self.refused(NoMerge, merged, one, "g")

    def test_no_name_ahead_of_all(self):
        for one in (picture(1, 1), picture(1, 1, (tone("a"),)), picture(1, 1, (layer("a"), layer("b")))):
            self.refused(NoName, merged, one, "none")
            self.refused(NoName, merged, one, "")

    def test_all_pictures(self):
        many = 0
        for one in PICTURES:
            for node, nodes in all_nodes(one[2]):
                number = nodes.index(node)
                both = nodes[number - 1:number + 1]
                can_be = len(both) == 2 and all(part[0] != "tone" and part[4] for part in both)
                can_be = can_be and both[0][2] == both[1][2] and node[2] in FOUR
                if can_be:
                    self.shows_the_same(merged(one, node[1]), one)
                    many = many + 1
                else:
                    self.refused(NoMerge, merged, one, node[1])
        self.assertGreater(many, 20)


class Opened(MergingCase):
    def around(self, node):
        return picture(2, 2, (layer("low", plain(2, 2, DIM)), node, tone("high", "round", HALF)))

    def opens(self, node):
        one = self.around(node)
        told = opened(one, node[1])
        self.assertEqual(told, picture(2, 2, one[2][:1] + node[5] + one[2][2:]))
        self.shows_the_same(told, one)

    def stays(self, node):
        self.refused(NoOpen, opened, self.around(node), node[1])

    def inner(self, manner):
        return (
            layer("a", sheet_of(2, SPOTS[4:8]), manner, HALF),
            group("b", (layer("c", manner="cut"), layer("d", BROAD), tone("e")), manner, (1, 3)),
        )

    def test_each_manner(self):
        for manner in MANNERS:
            node = group("g", self.inner(manner), manner)
            if manner in FOUR:
                self.opens(node)
            else:
                self.stays(node)

    def test_no_nodes(self):
        for manner in MANNERS:
            if manner in FOUR:
                self.opens(group("g", (), manner))
            else:
                self.stays(group("g", (), manner))

    def test_not_shown(self):
        for manner in FOUR:
            self.stays(group("g", self.inner(manner), manner, ONE, False))
            self.stays(group("g", (), manner, ONE, False))

    def test_another_strength(self):
        for manner in FOUR:
            for strength in (ZERO, HALF, ALMOST):
                self.stays(group("g", self.inner(manner), manner, strength))
                self.stays(group("g", (), manner, strength))

    def test_other_manners_right_within(self):
        for manner in FOUR:
            for other in MANNERS:
                if other != manner:
                    for node in (layer("x", manner=other), group("x", (layer("y", manner=manner),), other)):
                        self.stays(group("g", self.inner(manner) + (node,), manner))
                        self.stays(group("g", (node,) + self.inner(manner), manner))

    def test_other_manners_not_shown(self):
        for manner in FOUR:
            for other in MANNERS:
                hidden = layer("x", manner=other, shown=False)
                self.opens(group("g", self.inner(manner) + (hidden,), manner))
                self.opens(group("g", (group("x", (layer("y"),), other, ONE, False),) + self.inner(manner), manner))

    def test_a_tone_right_within(self):
        for manner in FOUR:
            for rule in RULES:
                self.stays(group("g", self.inner(manner) + (tone("x", rule),), manner))
                self.stays(group("g", (tone("x", rule, ZERO),), manner))
                self.opens(group("g", self.inner(manner) + (tone("x", rule, ONE, False),), manner))

    def test_no_group(self):
        for node in (layer("g"), tone("g"), layer("g", manner="plus", shown=False)):
            self.stays(node)

    def test_a_group_within_a_group(self):
        inner = group("h", (layer("a"), layer("b")), "plus")
        one = picture(2, 1, (group("g", (layer("x"), inner, tone("y")), "cut", HALF, False), layer("z")))
        self.refused(NoOpen, opened, one, "h")
        inner = group("h", (layer("a"), layer("b")))
        one = picture(2, 1, (group("g", (layer("x"), inner, tone("y")), "cut", HALF, False), layer("z")))
        wanted = (layer("x"), layer("a"), layer("b"), tone("y"))
        self.assertEqual(opened(one, "h"), picture(2, 1, (group("g", wanted, "cut", HALF, False), layer("z"))))

    def test_the_groups_within_stay(self):
        inner = group("h", (layer("a"),))
        self.opens(group("g", (inner,)))
        self.assertEqual(opened(picture(1, 1, (group("g", (inner,)),)), "g"), picture(1, 1, (inner,)))

    def test_no_name_ahead_of_all(self):
        for one in (picture(1, 1), picture(1, 1, (tone("a"),)), picture(1, 1, (group("a"),))):
            self.refused(NoName, opened, one, "none")

    def test_all_pictures(self):
        many = 0
        for one in PICTURES:
            for node, nodes in all_nodes(one[2]):
                can_be = node[0] == "group" and node[3] == ONE and node[4] and node[2] in FOUR
                can_be = can_be and all(part[2] == node[2] for part in node[5] if part[4])
                if can_be:
                    self.shows_the_same(opened(one, node[1]), one)
                    many = many + 1
                else:
                    self.refused(NoOpen, opened, one, node[1])
        self.assertGreater(many, 20)


class Swapped(MergingCase):
    def around(self, lower, upper):
        return picture(2, 2, (layer("low", plain(2, 2, DIM)), lower, upper, tone("high", "round", HALF)))

    def swaps(self, lower, upper):
        one = self.around(lower, upper)
        told = swapped(one, lower[1])
        self.assertEqual(told, self.around(upper, lower))
        self.shows_the_same(told, one)

    def stays(self, lower, upper):
        self.refused(NoSwap, swapped, self.around(lower, upper), lower[1])

    def test_each_manner(self):
        for manner in MANNERS:
            one = layer("a", sheet_of(2, SPOTS[4:8]), manner, HALF)
            for other in (layer("b", plain(1, 2, PALE), manner), group("b", (layer("c", BROAD),), manner, (2, 3))):
                if manner in THREE:
                    self.swaps(one, other)
                    self.swaps(other, one)
                else:
                    self.stays(one, other)
                    self.stays(other, one)

    def test_unlike_manners(self):
        for manner in MANNERS:
            for other in MANNERS:
                if manner != other:
                    self.stays(layer("a", manner=manner), layer("b", manner=other))

    def test_one_not_shown(self):
        nodes = [tone("a"), group("a", (layer("c"),), "atop")] + [layer("a", manner=manner) for manner in MANNERS]
        for node in nodes:
            for hidden in (layer("b", shown=False), group("b", (), "cut", HALF, False), tone("b", "grey", ONE, False)):
                self.swaps(node, hidden)
                self.swaps(hidden, node)
        self.swaps(layer("a", shown=False), tone("b", "turn", ONE, False))

    def test_a_tone(self):
        for rule in RULES:
            for manner in MANNERS:
                self.stays(tone("a", rule), layer("b", manner=manner))
                self.stays(layer("a", manner=manner), tone("b", rule))
            self.stays(tone("a", rule), tone("b", rule))
            self.stays(tone("a", rule, ZERO), layer("b"))

    def test_the_highest_node(self):
        for node in (layer("b", manner="plus"), layer("b", shown=False), tone("b"), group("b")):
            self.refused(NoSwap, swapped, picture(1, 1, (layer("a", manner="plus"), node)), "b")
            self.refused(NoSwap, swapped, picture(1, 1, (node,)), "b")
            self.refused(NoSwap, swapped, picture(1, 1, (group("g", (node,), "plus"), layer("z", manner="plus"))), "b")

    def test_within_a_group(self):
        inner = (tone("t"), layer("a", manner="plus"), layer("b", DIM_SHEET, "plus"), tone("u"))
        one = two_groups(inner)
        wanted = two_groups((inner[0], inner[2], inner[1], inner[3]))
        self.assertEqual(swapped(one, "a"), wanted)
        self.assertEqual(swapped(wanted, "b"), one)

    def test_no_name_ahead_of_all(self):
        for one in (picture(1, 1), picture(1, 1, (tone("a"),)), picture(1, 1, (layer("a"), layer("b", shown=False)))):
            self.refused(NoName, swapped, one, "none")

    def test_all_pictures(self):
        many = 0
        for one in PICTURES:
            for node, nodes in all_nodes(one[2]):
                number = nodes.index(node)
                both = nodes[number:number + 2]
                can_be = len(both) == 2 and both[0][2] == both[1][2] and node[2] in THREE
                can_be = can_be or (len(both) == 2 and not (both[0][4] and both[1][4]))
                if can_be:
                    told = swapped(one, node[1])
                    self.shows_the_same(told, one)
                    self.assertEqual(swapped(told, both[1][1]), one)
                    many = many + 1
                else:
                    self.refused(NoSwap, swapped, one, node[1])
        self.assertGreater(many, 20)


if __name__ == "__main__":
    unittest.main()
