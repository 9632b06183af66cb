"""3.1, 3.2, and 0.3 as far as it speaks of nodes and pictures."""

import copy
import unittest

from bydocument import is_sound_picture
from glazework.errors import GlazeError, NoName
from glazework.pictures import is_node, is_picture, names_in, node_named, with_node
from samples import (
    BROAD, CLEAR, HALF, HUGE, MANNERS, ONE, OTHER_THINGS, PICTURES, RED, RULES, SPOTS, STRENGTHS, ZERO,
    all_nodes, group, layer, picture, plain, tone,
)

LAYER = layer("a", plain(2, 1), "plus", HALF, True, -9, 9, (ONE, HALF))
GROUP = group("b", (layer("c"), tone("d")), "cut", ZERO, False)
TONE = tone("e", "grey", (1, 3), True)
NODES = (LAYER, GROUP, TONE, layer("z"), group("empty"), layer("f", BROAD, mask=(ZERO,) * 6))

DEEP = picture(2, 2, (
    layer("low"),
    group("outer", (
        tone("t"),
        group("middle", (layer("x"), group("inner", (layer("y"), tone("u"))), layer("w"))),
        layer("v"),
    )),
    tone("high"),
))


def nested_groups(many, innermost=()):
    nodes = innermost
    for number in range(many):
        nodes = (group("abcdefgh"[number], nodes),)
    return nodes[0]


class NodeCase(unittest.TestCase):
    def accepted(self, thing):
        self.assertIs(is_node(thing), True, thing)
        self.assertIs(is_picture((1, 1, (thing,))), True, thing)
        self.assertIs(is_node(group("outer", (thing,))), True, thing)

    def refused(self, thing):
        self.assertIs(is_node(thing), False, thing)
        self.assertIs(is_picture((1, 1, (thing,))), False, thing)
        self.assertIs(is_node(group("outer", (thing,))), False, thing)

    def refused_at(self, node, number, *things):
        for thing in things:
            self.refused(node[:number] + (thing,) + node[number + 1:])


class IsNode(NodeCase):
    def test_each_kind(self):
        for node in NODES:
            self.accepted(node)

    def test_the_word(self):
        for node in (LAYER, GROUP, TONE):
            self.refused_at(node, 0, "", "Layer", "layers", "node", "mask", None, 0, True, ("layer",), ["tone"])
            for word in ("layer", "group", "tone"):
                if word != node[0]:
                    self.refused_at(node, 0, word)

    def test_the_name(self):
        for node in (LAYER, GROUP, TONE):
            for name in ("a", "q", "zz", "abcdef", "zzzzzz"):
                self.accepted(node[:1] + (name,) + node[2:])
            self.refused_at(
                node, 1, "", "abcdefg", "abcdefgh" * 9, "A", "aB", "a1", "1", "a b", " ", "a\n", "-", "a_b", "\u00e4",
                "\u00aa", "\uff41", None, 0, 1, True, ("a",), ["a"], ("a", "b"), [],
            )

    def test_the_manner(self):
        for node in (LAYER, GROUP):
            for manner in MANNERS:
                self.accepted(node[:2] + (manner,) + node[3:])
            self.refused_at(node, 2, "Over", "", "under", "overplus", None, 0, True, ("over",), ["over"], [], ())
            self.refused_at(node, 2, *RULES)

    def test_the_rule(self):
        for rule in RULES:
            self.accepted(TONE[:2] + (rule,) + TONE[3:])
        self.refused_at(TONE, 2, "Turn", "", "turned", "u", None, 0, True, ("turn",), ["turn"], [], ())
        self.refused_at(TONE, 2, *MANNERS)

    def test_the_strength(self):
        for node in (LAYER, GROUP, TONE):
            for strength in STRENGTHS:
                self.accepted(node[:3] + (strength,) + node[4:])
            self.refused_at(
                node, 3, 0, 1, "1", "1/2", (1, 0), (2, 4), (2, 2), (3, 2), (-1, 2), (0, 2), [1, 2], (True, 1),
                (1, True), None, True, (), (1,), (1, 2, 3), CLEAR,
            )

    def test_shown(self):
        for node in (LAYER, GROUP, TONE):
            for shown in (True, False):
                self.accepted(node[:4] + (shown,) + node[5:])
            self.refused_at(node, 4, 1, 0, None, "", "True", (True,), [True], (), [])

    def test_left_and_top(self):
        for number in (5, 6):
            for offset in range(-9, 10):
                self.accepted(LAYER[:number] + (offset,) + LAYER[number + 1:])
            self.refused_at(
                LAYER, number, -10, 10, -11, HUGE, -HUGE, True, False, None, "0", "", (0,), [0], (), (0, 1),
            )

    def test_the_mask(self):
        for mask in (None, (ZERO, ONE), (HALF, HALF), ((1, 3), (5, 7))):
            self.accepted(LAYER[:7] + (mask,) + LAYER[8:])
        self.refused_at(
            LAYER, 7, (), (ONE,), (ONE, ONE, ONE), (ONE,) * 4, [ONE, ONE], (ONE, 1), (1, 1), (ONE, (2, 4)),
            (ONE, (3, 2)), (ONE, None), (None, None), ONE, 0, 1, True, False, "", "ab", CLEAR, (ONE, [1, 2]),
            ([0, 1], ONE),
        )

    def test_the_sheet(self):
        self.accepted(layer("a", plain(8, 8)))
        self.accepted(layer("a", plain(1, 1)))
        without_mask = LAYER[:7] + (None,) + LAYER[8:]
        self.refused_at(
            without_mask, 8, None, 0, True, "", (), [], plain(9, 1), (0, 1, ()), (1, 0, ()), (2, 1, (RED,)),
            [2, 1, (RED, RED)], (2, 1, [RED, RED]), (1, 1, (RED, RED)), (1, 1, RED), (True, 1, (RED,)), (2, 1), RED,
        )
        self.refused_at(LAYER, 8, plain(1, 1), plain(2, 2), (1, 2, (RED, 0)), (1, 2, None), 0, None)

    def test_the_nodes(self):
        self.accepted(group("b"))
        self.accepted(group("b", (layer("c"), layer("d"), tone("e"), group("f"))))
        self.refused_at(
            GROUP, 5, None, 0, True, "", "layer", [], [layer("c")], layer("c"), tone("c"), group("c"), (None,), ((),),
            ([],), (layer("c"), None), (list(layer("c")),), (layer("c")[:8],), (tone("c", "over"),),
            (layer("c", (1, 1)),),
        )

    def test_too_few_or_too_many_parts(self):
        for node in (LAYER, GROUP, TONE):
            for many in range(len(node)):
                self.refused(node[:many])
                self.refused(node[many + 1:])
            for part in (None, (), True, ONE):
                self.refused(node + (part,))
        self.refused(TONE + (None, None, None, plain(1, 1)))

    def test_lists_are_no_tuples(self):
        for node in NODES:
            self.refused(list(node))

    def test_any_other_thing(self):
        for thing in OTHER_THINGS + SPOTS + STRENGTHS + (BROAD, DEEP):
            self.refused(thing)
            for node in (LAYER, GROUP, TONE):
                self.refused_at(node, 0, thing)
                self.refused_at(node, 4, *[part for part in (thing,) if not isinstance(part, bool)])
            self.refused((thing,) * 5)
            self.refused((thing,) * 6)
            self.refused((thing,) * 9)

    def test_nothing_is_changed(self):
        for thing in OTHER_THINGS + NODES + ([1, 1, [list(LAYER)]], DEEP):
            before = copy.deepcopy(thing)
            is_node(thing)
            is_picture(thing)
            self.assertEqual(thing, before)


class Depth(unittest.TestCase):
    def test_three_deep(self):
        for innermost in ((), (layer("z"), tone("y"))):
            for many in range(1, 9):
                node = nested_groups(many, innermost)
                self.assertIs(is_node(node), many <= 3, many)
                self.assertIs(is_picture((1, 1, (node,))), many <= 3, many)
                self.assertIs(is_picture((1, 1, (layer("x"), group("w"), node))), many <= 3, many)

    def test_side_by_side_is_not_deeper(self):
        inner = tuple(group(name) for name in "mnopqrst")
        self.assertIs(is_node(group("a", (group("b", inner), group("c")))), True)
        self.assertIs(is_node(group("a", (group("b", inner + (group("u", (group("v"),)),)), group("c")))), False)


class Names(unittest.TestCase):
    def refused(self, nodes):
        self.assertIs(is_picture((2, 2, nodes)), False)
        self.assertIs(is_node(group("outer", nodes)), False)

    def test_side_by_side(self):
        self.refused((layer("a"), layer("a")))
        self.refused((layer("a"), tone("b"), group("a")))
        self.refused((group("a"), group("a")))

    def test_a_group_and_one_within_it(self):
        self.refused((group("a", (layer("a"),)),))
        self.refused((group("a", (group("b", (tone("a"),)),)),))
        self.assertIs(is_node(group("a", (layer("a"),))), False)

    def test_one_within_and_one_beside(self):
        self.refused((group("a", (layer("b"),)), layer("b")))
        self.refused((layer("b"), group("a", (group("c", (layer("b"),)),))))

    def test_in_two_groups(self):
        self.refused((group("a", (layer("c"),)), group("b", (layer("c"),))))

    def test_equal_but_for_the_name(self):
        self.assertIs(is_picture((2, 2, (layer("a"), layer("b")))), True)


class IsPicture(unittest.TestCase):
    def refused(self, thing):
        self.assertIs(is_picture(thing), False, thing)

    def test_pictures(self):
        for thing in PICTURES + (DEEP, picture(1, 1), picture(8, 8), picture(8, 1, NODES)):
            self.assertIs(is_picture(thing), True, thing)

    def test_all_sizes(self):
        for wide in range(-1, 11):
            for high in range(-1, 11):
                wanted = 1 <= wide <= 8 and 1 <= high <= 8
                for nodes in ((), (LAYER,)):
                    self.assertIs(is_picture((wide, high, nodes)), wanted, (wide, high))

    def test_other_numbers(self):
        for thing in (True, False, None, "1", (1,), [1], HUGE):
            self.refused((thing, 1, ()))
            self.refused((1, thing, ()))

    def test_other_nodes(self):
        for thing in (None, [], "", 0, True, [LAYER], LAYER, (None,), ((),), (LAYER, 0), (list(LAYER),), (LAYER[:8],)):
            self.refused((1, 1, thing))

    def test_parts_and_lists(self):
        self.refused((1, 1))
        self.refused((1, ()))
        self.refused((1, 1, (), ()))
        self.refused([1, 1, ()])
        self.refused((1, 1, (), None))

    def test_any_other_thing(self):
        for thing in OTHER_THINGS + SPOTS + STRENGTHS + NODES + (BROAD,):
            self.refused(thing)
            self.refused((thing, thing, thing))
            self.refused((1, 1, (thing, 0)))
            self.refused((1, 1, [thing]))


class NamesIn(unittest.TestCase):
    def test_no_nodes(self):
        self.assertEqual(names_in(picture(1, 1)), [])

    def test_groups_within_groups(self):
        wanted = ["low", "outer", "t", "middle", "x", "inner", "y", "u", "w", "v", "high"]
        self.assertEqual(names_in(DEEP), wanted)

    def test_all_pictures(self):
        for one in PICTURES:
            self.assertEqual(names_in(one), [node[1] for node, nodes in all_nodes(one[2])])

    def test_a_new_list_each_time(self):
        told = names_in(DEEP)
        told.append("more")
        told[0] = "other"
        self.assertIs(type(told), list)
        self.assertEqual(len(names_in(DEEP)), 11)
        self.assertEqual(names_in(DEEP)[0], "low")

    def test_somewhat_deeper(self):
        self.assertEqual(names_in(picture(9, 9, (nested_groups(5),))), ["e", "d", "c", "b", "a"])


class NodeNamed(unittest.TestCase):
    def test_each_node(self):
        for one in PICTURES + (DEEP,):
            for node, nodes in all_nodes(one[2]):
                self.assertEqual(node_named(one, node[1]), node)

    def test_within_groups(self):
        self.assertEqual(node_named(DEEP, "u"), tone("u"))
        self.assertEqual(node_named(DEEP, "inner"), group("inner", (layer("y"), tone("u"))))

    def test_no_name(self):
        for one, name in ((DEEP, "none"), (DEEP, ""), (DEEP, "LOW"), (DEEP, "lo"), (DEEP, "lowest"), ((1, 1, ()), "a")):
            with self.assertRaises(NoName) as caught:
                node_named(one, name)
            self.assertIs(type(caught.exception), NoName)
            self.assertIsInstance(caught.exception, GlazeError)


class WithNode(unittest.TestCase):
    def test_at_the_top(self):
        one = picture(2, 1, (layer("a"), tone("b"), group("c", (layer("d"),))))
        self.assertEqual(
            with_node(one, "b", layer("b", BROAD)),
            picture(2, 1, (layer("a"), layer("b", BROAD), group("c", (layer("d"),)))),
        )
        self.assertEqual(with_node(one, "c", tone("c")), picture(2, 1, (layer("a"), tone("b"), tone("c"))))
        self.assertEqual(with_node(one, "a", group("a")), picture(2, 1, (group("a"),) + one[2][1:]))

    def test_within_a_group(self):
        told = with_node(DEEP, "u", group("u", (tone("new"),), "cut", HALF, False))
        wanted = ["low", "outer", "t", "middle", "x", "inner", "y", "u", "new", "w", "v", "high"]
        self.assertEqual(names_in(told), wanted)
        self.assertEqual(node_named(told, "u"), group("u", (tone("new"),), "cut", HALF, False))
        self.assertEqual(with_node(told, "u", tone("u")), DEEP)

    def test_the_parts_of_the_groups_stay(self):
        one = picture(1, 1, (group("a", (group("b", (tone("c"),), "plus", HALF, False),), "cut", (1, 3), True),))
        wanted = picture(1, 1, (group("a", (group("b", (layer("c"),), "plus", HALF, False),), "cut", (1, 3), True),))
        self.assertEqual(with_node(one, "c", layer("c")), wanted)

    def test_each_node_for_itself_and_another(self):
        for one in PICTURES:
            for node, nodes in all_nodes(one[2]):
                self.assertEqual(with_node(one, node[1], node), one)
                told = with_node(one, node[1], tone(node[1], "round", HALF))
                self.assertTrue(is_sound_picture(told))
                self.assertEqual(node_named(told, node[1]), tone(node[1], "round", HALF))
                gone = [inner[1] for inner, beside in all_nodes((node,))][1:]
                self.assertEqual(names_in(told), [name for name in names_in(one) if name not in gone])

    def test_what_is_handed_in_is_not_changed(self):
        before = copy.deepcopy(DEEP)
        with_node(DEEP, "y", tone("y"))
        self.assertEqual(DEEP, before)

    def test_no_name(self):
        for name in ("none", "", "Low"):
            with self.assertRaises(NoName) as caught:
                with_node(DEEP, name, tone("none"))
            self.assertIs(type(caught.exception), NoName)
        with self.assertRaises(NoName):
            with_node(picture(1, 1), "a", tone("a"))


if __name__ == "__main__":
    unittest.main()
