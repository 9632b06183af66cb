"""5.1, 0.2 (c), and 0.3 as far as it speaks of needless nodes."""

import copy
import unittest

from bydocument import flat_by_document, is_sound_picture, needless_by_document
from glazework.errors import NoName
from glazework.pictures import names_in
from glazework.seen import needless, without
from samples import (
    BLACK, CLEAR, HALF, HUGE, MANNERS, ONE, PALE, PICTURES, RED, RULES, WHITE, ZERO,
    all_nodes, group, layer, picture, plain, sheet_of, tone,
)

FULL = plain(2, 2, RED)
GLASS = plain(2, 2, CLEAR)
ALMOST = (HUGE - 1, HUGE)


def told(*nodes):
    return needless(picture(2, 2, nodes))


class Grounds(unittest.TestCase):
    def test_no_nodes(self):
        self.assertEqual(told(), [])

    def test_nothing_needless(self):
        self.assertEqual(told(layer("a"), group("b", (layer("c"), tone("d"))), tone("e")), [])

    def test_not_shown(self):
        self.assertEqual(told(layer("a", shown=False)), ["a"])
        self.assertEqual(told(group("a", (layer("b"),), shown=False)), ["a"])
        self.assertEqual(told(tone("a", shown=False)), ["a"])

    def test_strength_nought(self):
        self.assertEqual(told(layer("a", strength=ZERO)), ["a"])
        self.assertEqual(told(group("a", (layer("b"),), strength=ZERO)), ["a"])
        for rule in RULES:
            self.assertEqual(told(tone("a", rule, ZERO)), ["a"])
        self.assertEqual(told(layer("a", strength=(1, HUGE))), [])
        self.assertEqual(told(tone("a", "turn", (1, HUGE))), [])

    def test_clear_at_all_places(self):
        for manner in MANNERS:
            self.assertEqual(told(layer("a", GLASS, manner)), ["a"])
            self.assertEqual(told(group("a", (), manner)), ["a"])
            self.assertEqual(told(layer("a", sheet_of(2, (CLEAR, CLEAR, CLEAR, PALE)), manner)), [])

    def test_clear_by_the_mask(self):
        self.assertEqual(told(layer("a", FULL, mask=(ZERO,) * 4)), ["a"])
        self.assertEqual(told(layer("a", FULL, mask=(ZERO, ZERO, (1, HUGE), ZERO))), [])

    def test_outside_the_picture(self):
        for left, top in ((2, 0), (-2, 0), (0, 2), (0, -2), (9, -9)):
            self.assertEqual(told(layer("a", FULL, left=left, top=top)), ["a"])
        for left, top in ((1, 1), (-1, 1), (1, -1), (-1, -1)):
            self.assertEqual(told(layer("a", FULL, left=left, top=top)), [])

    def test_what_lies_outside_does_not_count(self):
        sheet = sheet_of(3, (CLEAR, CLEAR, RED, CLEAR, CLEAR, RED))
        self.assertEqual(told(layer("a", sheet)), ["a"])
        self.assertEqual(told(layer("a", sheet, left=-1)), [])

    def test_a_group_that_brings_nothing(self):
        self.assertEqual(told(group("a", (layer("b", FULL, "cut"),))), ["a"])
        self.assertEqual(told(group("a", (layer("b", FULL), layer("c", FULL, "cut")))), ["a"])
        self.assertEqual(told(group("a", (tone("b"),))), ["a"])
        self.assertEqual(told(group("a", (group("b", (layer("c", GLASS),)),))), ["a"])

    def test_black_is_not_clear(self):
        self.assertEqual(told(layer("a", plain(2, 2, (HALF, ZERO, ZERO, ZERO)))), [])

    def test_a_tone_that_changes_nothing_is_not_needless(self):
        self.assertEqual(told(tone("a")), [])
        self.assertEqual(told(layer("a", plain(2, 2, WHITE)), tone("b", "grey")), [])


class Covered(unittest.TestCase):
    def test_a_layer_above(self):
        self.assertEqual(told(layer("a"), tone("b"), group("c", (layer("d"),)), layer("e", FULL)), ["a", "b", "c"])

    def test_a_group_above(self):
        whole = group("e", (layer("f", FULL),))
        self.assertEqual(told(layer("a"), tone("b"), whole, layer("g")), ["a", "b"])

    def test_halves_within_a_group_cover_together(self):
        halves = (layer("f", plain(1, 2, RED)), layer("g", plain(1, 2, BLACK), left=1))
        self.assertEqual(told(layer("a"), group("e", halves)), ["a"])
        self.assertEqual(told(layer("a"), *halves), [])

    def test_what_does_not_cover(self):
        for other in (
            layer("b", FULL, shown=False), layer("b", FULL, strength=ALMOST), layer("b", FULL, left=1),
            layer("b", FULL, top=-1), layer("b", FULL, mask=(ONE, ONE, ALMOST, ONE)), layer("b", plain(2, 1, RED)),
            layer("b", sheet_of(2, (RED, RED, RED, (ALMOST, ZERO, ZERO, ZERO)))), tone("b"),
            group("b", (layer("c", FULL),), strength=ALMOST), group("b", (layer("c", FULL),), shown=False),
            group("b", (layer("c", FULL, strength=ALMOST),)),
        ):
            self.assertNotIn("a", told(layer("a"), other), other)

    def test_other_manners_do_not_cover(self):
        for manner in MANNERS:
            wanted = ["a"] if manner == "over" else []
            self.assertEqual(told(layer("a"), layer("b", FULL, manner)), wanted, manner)
            self.assertEqual(told(layer("a"), group("b", (layer("c", FULL),), manner)), wanted, manner)

    def test_a_tone_above_the_cover_takes_nothing_from_it(self):
        self.assertEqual(told(layer("a"), layer("b", FULL), tone("c"), layer("d", FULL, "cut")), ["a"])

    def test_a_larger_sheet_covers(self):
        self.assertEqual(told(layer("a"), layer("b", plain(8, 8, BLACK), left=-6, top=-6)), ["a"])
        self.assertEqual(told(layer("a"), layer("b", plain(8, 8, BLACK), left=-7, top=-6)), [])

    def test_what_is_above_stays(self):
        self.assertEqual(told(layer("a", FULL), layer("b"), tone("c")), [])

    def test_the_highest_of_two_that_cover(self):
        self.assertEqual(told(layer("a", FULL), layer("b"), layer("c", FULL), tone("d")), ["a", "b"])

    def test_within_a_group(self):
        inner = (layer("a"), tone("b"), layer("c", FULL), layer("d"))
        self.assertEqual(told(layer("x"), group("g", inner, "plus"), layer("y")), ["a", "b"])
        self.assertEqual(told(group("o", (group("g", inner, "over", HALF),), "over", HALF)), ["a", "b"])

    def test_a_cover_in_a_group_leaves_those_beside_the_group(self):
        nodes = (layer("x"), group("g", (layer("a"), layer("c", FULL)), "over", HALF), layer("y"))
        self.assertEqual(told(*nodes), ["a"])

    def test_a_cover_beside_a_group_leaves_those_within_one_above(self):
        self.assertEqual(told(layer("x", FULL), group("g", (layer("a"),))), [])


class Order(unittest.TestCase):
    def test_none_within_a_needless_group(self):
        inner = (layer("b", shown=False), group("c", (tone("d", shown=False),)))
        self.assertEqual(told(group("a", inner, shown=False)), ["a"])
        self.assertEqual(told(group("a", inner)), ["a"])
        self.assertEqual(told(group("a", inner + (layer("e"),))), ["b", "c"])

    def test_the_order_of_names_in(self):
        nodes = (
            layer("z", shown=False),
            group("y", (tone("x", shown=False), layer("w"), group("v", (layer("u"), layer("t", GLASS))))),
            tone("a", "turn", ZERO),
        )
        self.assertEqual(told(*nodes), ["z", "x", "t", "a"])

    def test_a_new_list_each_time(self):
        one = picture(1, 1, (tone("a", shown=False),))
        names = needless(one)
        names.append("b")
        self.assertIs(type(names), list)
        self.assertEqual(needless(one), ["a"])

    def test_pictures_by_the_document(self):
        for one in PICTURES:
            self.assertEqual(needless(one), needless_by_document(one, one[2]))


class Without(unittest.TestCase):
    ONE = picture(2, 1, (
        layer("a"),
        group("b", (layer("c"), group("d", (tone("e"), layer("f")), "cut", HALF, False)), "plus", (1, 3)),
        tone("g"),
    ))

    def test_no_names(self):
        self.assertEqual(without(self.ONE, []), self.ONE)
        self.assertEqual(without(picture(1, 1), []), picture(1, 1))

    def test_one_name(self):
        self.assertEqual(without(self.ONE, ["a"]), picture(2, 1, self.ONE[2][1:]))
        self.assertEqual(without(self.ONE, ["b"]), picture(2, 1, (layer("a"), tone("g"))))

    def test_within_a_group(self):
        wanted = picture(2, 1, (
            layer("a"),
            group("b", (layer("c"), group("d", (layer("f"),), "cut", HALF, False)), "plus", (1, 3)),
            tone("g"),
        ))
        self.assertEqual(without(self.ONE, ["e"]), wanted)

    def test_a_group_that_has_none_left_stays(self):
        wanted = picture(2, 1, (layer("a"), group("b", (), "plus", (1, 3)), tone("g")))
        self.assertEqual(without(self.ONE, ["d", "c"]), wanted)

    def test_a_name_twice(self):
        self.assertEqual(without(self.ONE, ["a", "g", "a"]), picture(2, 1, self.ONE[2][1:2]))

    def test_one_within_another(self):
        wanted = picture(2, 1, (layer("a"), tone("g")))
        self.assertEqual(without(self.ONE, ["b", "f"]), wanted)
        self.assertEqual(without(self.ONE, ["f", "d", "b"]), wanted)

    def test_all(self):
        self.assertEqual(without(self.ONE, names_in(self.ONE)), picture(2, 1))

    def test_no_name(self):
        for names in (["z"], ["a", "z"], ["z", "a"], ["a", "a", ""], ["A"], ["ab"], ["b", "f", "none"]):
            with self.assertRaises(NoName) as caught:
                without(self.ONE, names)
            self.assertIs(type(caught.exception), NoName)
        with self.assertRaises(NoName):
            without(picture(1, 1), ["a"])

    def test_what_is_handed_in_is_not_changed(self):
        names = ["e", "a", "e"]
        before = copy.deepcopy(self.ONE)
        without(self.ONE, names)
        self.assertEqual(names, ["e", "a", "e"])
        needless(self.ONE)
        self.assertEqual(self.ONE, before)


class NothingSeenOfIt(unittest.TestCase):
    def test_the_same_is_shown_and_none_is_needless_then(self):
        for one in PICTURES:
            names = needless(one)
            left = without(one, names)
            self.assertTrue(is_sound_picture(left))
            self.assertEqual(flat_by_document(left), flat_by_document(one))
            self.assertEqual(needless(left), [])
            gone = [inner[1] for node, nodes in all_nodes(one[2]) if node[1] in names
                    for inner, beside in all_nodes((node,))]
            self.assertEqual(names_in(left), [name for name in names_in(one) if name not in gone])

    def test_one_by_one(self):
        for one in PICTURES:
            for name in needless(one):
                self.assertEqual(flat_by_document(without(one, [name])), flat_by_document(one))


if __name__ == "__main__":
    unittest.main()
