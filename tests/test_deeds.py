"""8.1 and 8.2, and 0.3 as far as it speaks of deeds."""

import copy
import unittest

from bydocument import done_by_document
from glazework.deeds import contrary, done, is_deed
from glazework.errors import GlazeError, NotSo
from samples import (
    BLACK, BROAD, CLEAR, DIM, HALF, HUGE, MANNERS, ONE, OTHER_THINGS, PALE, PICTURES, RED, SPOTS, STRENGTHS, WHITE,
    ZERO, Draws, all_nodes, group, layer, nested, picture, plain, tone,
)

DEEP = group("p", (group("q", (group("r", (layer("s"),)),)),))

DEEDS = (
    ("strength", "a", ONE, HALF),
    ("shown", "a", True, False),
    ("manner", "a", "over", "cut"),
    ("place", "a", (0, 0), (-9, 9)),
    ("spot", "a", 0, 1, CLEAR, RED),
    ("put", "g", 0, layer("a")),
    ("out", "g", 0, group("a", (layer("b"), tone("t")))),
)

NAMES = ("a", "z", "abcdef", "zzzzzz")
NO_NAMES = ("abcdefg", "A", "a1", "a b", " ", "a\n", "\u00e4", 1, None, True, ("a",), ["a"])
NO_NUMBERS = (-1, True, False, None, "0", (0,), [0], -HUGE)
NO_SHARES = ((2, 4), (3, 2), (-1, 2), (1, 0), (0, 2), (True, 2), (1, True), [1, 2], (1,), (1, 2, 3), 1, 0, None, "1/2")
NO_PLACES = (
    (10, 0), (0, 10), (-10, 0), (0, -10), (0,), (0, 0, 0), (), [0, 0], (True, 0), (0, False), ("0", 0), (0, None), 0,
    None, "00",
)
NO_SPOTS = (
    (HALF, ONE, ZERO, ZERO), (ONE, ZERO, ZERO), (ONE,) * 5, list(WHITE), (ONE, ONE, ONE, [1, 1]),
    (ONE, (2, 4), ZERO, ZERO), (ONE, 0, 0, 0), ONE, None, (), "white",
)
NO_NODES = (
    list(layer("a")), layer(""), layer("abcdefg"), layer("a")[:-1], layer("a") + (None,), tone("a", "over"),
    layer("a", strength=(2, 4)), layer("a", shown=1), layer("a", left=10), layer("a", manner="turn"),
    layer("a", (2, 2, (RED,) * 3)), group("a", (layer("a"),)), group("a", [layer("b")])[:5] + ([layer("b")],),
    group("a", (DEEP,)), None, (), "layer", 0, True, nested(20, tuple),
)


class IsDeed(unittest.TestCase):
    def is_one(self, thing):
        self.assertIs(is_deed(thing), True, thing)

    def is_none(self, thing):
        self.assertIs(is_deed(thing), False, thing)

    def spoilt(self, deed, place, things):
        for thing in things:
            self.is_none(deed[:place] + (thing,) + deed[place + 1:])

    def kept(self, deed, place, things):
        for thing in things:
            self.is_one(deed[:place] + (thing,) + deed[place + 1:])

    def test_each_kind(self):
        for deed in DEEDS:
            self.is_one(deed)

    def test_names(self):
        for deed in DEEDS:
            self.kept(deed, 1, NAMES)
            self.spoilt(deed, 1, NO_NAMES)

    def test_no_name_is_the_pictures_own_for_a_parent_alone(self):
        for deed in DEEDS:
            self.assertIs(is_deed(deed[:1] + ("",) + deed[2:]), deed[0] in ("put", "out"), deed)

    def test_words(self):
        words = ("", "strengt", "Strength", "put ", "layer", "name", "move", None, 0, True, ("put",), ["out"])
        for deed in DEEDS:
            self.spoilt(deed, 0, words)

    def test_the_word_of_another_kind(self):
        for deed in DEEDS:
            for other in DEEDS:
                alike = deed[0] == other[0] or {deed[0], other[0]} == {"put", "out"}
                # Two whole numbers may be a share and a place alike.
                alike = alike or (deed[0], other[0]) == ("strength", "place")
                self.assertIs(is_deed(other[:1] + deed[1:]), alike, (deed, other))

    def test_a_part_more_or_less(self):
        for deed in DEEDS:
            for number in range(len(deed)):
                self.is_none(deed[:number])
                self.is_none(deed[:number] + deed[number + 1:])
                self.is_none(deed[:number] + deed[number:number + 1] + deed[number:])
            self.is_none(deed + (None,))
            self.is_none(deed + deed[-1:])

    def test_lists_for_tuples(self):
        for deed in DEEDS:
            self.is_none(list(deed))
            self.is_none([deed])
            self.is_none((deed,))

    def test_strengths(self):
        for place in (2, 3):
            self.kept(DEEDS[0], place, STRENGTHS)
            self.spoilt(DEEDS[0], place, NO_SHARES + (True, False, "over", (0, 0), CLEAR))

    def test_truths(self):
        for place in (2, 3):
            self.kept(DEEDS[1], place, (True, False))
            self.spoilt(DEEDS[1], place, (1, 0, None, "True", "+", "", (True,), [], ONE))

    def test_manners(self):
        for place in (2, 3):
            self.kept(DEEDS[2], place, MANNERS)
            spoilt = ("turn", "grey", "round", "", "Over", "ove", None, 0, True, ("over",), ["cut"])
            self.spoilt(DEEDS[2], place, spoilt)

    def test_places(self):
        for place in (2, 3):
            self.kept(DEEDS[3], place, ((-9, -9), (9, 9), (0, 0), (-9, 9), (3, -4)))
            self.spoilt(DEEDS[3], place, NO_PLACES)

    def test_places_of_spots(self):
        for place in (2, 3):
            self.kept(DEEDS[4], place, (0, 1, 7, 8, 63, HUGE))
            self.spoilt(DEEDS[4], place, NO_NUMBERS)

    def test_spots(self):
        for place in (4, 5):
            self.kept(DEEDS[4], place, SPOTS)
            self.spoilt(DEEDS[4], place, NO_SPOTS)

    def test_numbers(self):
        for deed in DEEDS[5:]:
            self.kept(deed, 2, (0, 1, 7, 100, HUGE))
            self.spoilt(deed, 2, NO_NUMBERS)

    def test_nodes(self):
        for deed in DEEDS[5:]:
            self.kept(deed, 3, (layer("a"), group("a"), tone("a"), DEEP, layer("g"), layer("abcdef", BROAD, "cut")))
            self.spoilt(deed, 3, NO_NODES)

    def test_old_and_new_may_be_the_same(self):
        for deed in DEEDS[:5]:
            self.is_one(deed[:-1] + deed[-2:-1])

    def test_other_things(self):
        for thing in OTHER_THINGS:
            self.is_none(thing)
            for deed in DEEDS:
                self.is_none((deed[0], thing))
                self.is_none((deed[0],) + (thing,) * 3)
                self.is_none((deed[0],) + (thing,) * 5)
                self.is_none((thing,) + deed[1:])

    def test_other_things_in_each_part(self):
        deep = [thing for thing in OTHER_THINGS if isinstance(thing, (list, tuple))]
        for deed in DEEDS:
            for place in range(len(deed)):
                self.spoilt(deed, place, deep)

    def test_what_is_drawn_is_a_deed(self):
        draws = Draws(5)
        for one in PICTURES:
            self.is_one(draws.deed(one))


BROAD_MASK = (ONE, HALF, ZERO, (1, 3), ONE, ONE)
START = picture(3, 2, (
    layer("a", BROAD, "plus", HALF, True, -1, 2, BROAD_MASK),
    group("g", (
        layer("b", plain(2, 1, DIM), "cut", ONE, False, 3, -3),
        tone("t", "round", (1, 3)),
        group("h", (layer("c"), group("k", (), "screen", ZERO, False)), "atop"),
    ), "multiply", (2, 3)),
    tone("u", "grey", ONE, False),
))


def with_nodes(one, parent, nodes):
    """Written once more here, for parents at the top and one within: a picture with other nodes of a parent."""
    def changed(node):
        if node[1] == parent:
            return node[:5] + (tuple(nodes),)
        return node[:5] + (tuple(changed(inner) for inner in node[5]),) if node[0] == "group" else node
    if parent == "":
        return one[:2] + (tuple(nodes),)
    return one[:2] + (tuple(changed(node) for node in one[2]),)


def node_of(one, name):
    return [node for node, beside in all_nodes(one[2]) if node[1] == name][0]


def nodes_of(one, parent):
    return one[2] if parent == "" else node_of(one, parent)[5]


class DoneCase(unittest.TestCase):
    def comes(self, one, deed, wanted):
        before = copy.deepcopy((one, deed))
        self.assertEqual(done(one, deed), wanted, deed)
        self.assertEqual(done_by_document(one, deed), wanted, deed)
        self.assertEqual(done(wanted, contrary(deed)), one, deed)
        self.assertEqual((one, deed), before)

    def refused(self, one, deed):
        before = copy.deepcopy((one, deed))
        with self.assertRaises(NotSo) as caught:
            done(one, deed)
        self.assertIs(type(caught.exception), NotSo, deed)
        self.assertIsInstance(caught.exception, GlazeError)
        self.assertIsNone(done_by_document(one, deed), deed)
        self.assertEqual((one, deed), before)


class DoneUponValues(DoneCase):
    def with_parts(self, name, places):
        """The picture with other parts of one node, by where they stand in its tuple."""
        def changed(node):
            parts = list(node)
            if node[1] == name:
                for place, part in places.items():
                    parts[place] = part
            elif node[0] == "group":
                parts[5] = tuple(changed(inner) for inner in node[5])
            return tuple(parts)
        return START[:2] + (tuple(changed(node) for node in START[2]),)

    def test_strength_of_each_kind_of_node(self):
        for name in "agbthcku":
            old = node_of(START, name)[3]
            for new in STRENGTHS:
                self.comes(START, ("strength", name, old, new), self.with_parts(name, {3: new}))
            for other in STRENGTHS:
                if other != old:
                    self.refused(START, ("strength", name, other, ONE))

    def test_shown_of_each_kind_of_node(self):
        for name in "agbthcku":
            old = node_of(START, name)[4]
            for new in (True, False):
                self.comes(START, ("shown", name, old, new), self.with_parts(name, {4: new}))
                self.refused(START, ("shown", name, not old, new))

    def test_manner_of_layers_and_groups(self):
        for name in "agbhck":
            old = node_of(START, name)[2]
            for new in MANNERS:
                self.comes(START, ("manner", name, old, new), self.with_parts(name, {2: new}))
                if new != old:
                    self.refused(START, ("manner", name, new, old))

    def test_manner_of_a_tone(self):
        for name in "tu":
            for manner in MANNERS:
                self.refused(START, ("manner", name, manner, "over"))
        self.refused(START, ("manner", "u", "grey", "turn"))

    def test_place_of_layers(self):
        for name, old in (("a", (-1, 2)), ("b", (3, -3)), ("c", (0, 0))):
            for new in ((-9, 9), (0, 0), (9, -9), (1, 2), old):
                self.comes(START, ("place", name, old, new), self.with_parts(name, {5: new[0], 6: new[1]}))
            for other in ((old[0] + 1, old[1]), (old[0], old[1] + 1), (9, 9)):
                self.refused(START, ("place", name, other, old))
        self.refused(START, ("place", "a", (2, -1), (0, 0)))

    def test_place_of_groups_and_tones(self):
        for name in "gthku":
            self.refused(START, ("place", name, (0, 0), (1, 1)))

    def test_spots_at_each_place(self):
        for name in "abc":
            wide, high, spots = node_of(START, name)[8]
            for number, old in enumerate(spots):
                for new in (BLACK, PALE, old):
                    sheet = (wide, high, spots[:number] + (new,) + spots[number + 1:])
                    deed = ("spot", name, number % wide, number // wide, old, new)
                    self.comes(START, deed, self.with_parts(name, {8: sheet}))

    def test_spots_that_are_others(self):
        for number, old in enumerate(BROAD[2]):
            for other in SPOTS:
                if other != old:
                    self.refused(START, ("spot", "a", number % 3, number // 3, other, CLEAR))

    def test_places_that_the_sheet_has_not(self):
        for x, y in ((3, 0), (0, 2), (3, 2), (2, 2), (3, 1), (4, 0), (HUGE, 0), (0, HUGE)):
            for spot in SPOTS:
                self.refused(START, ("spot", "a", x, y, spot, RED))

    def test_spots_of_groups_and_tones(self):
        for name in "gthku":
            self.refused(START, ("spot", name, 0, 0, CLEAR, CLEAR))

    def test_the_pictures_size_is_not_the_sheets(self):
        one = picture(1, 1, (layer("a", plain(2, 2, RED)),))
        wanted = picture(1, 1, (layer("a", (2, 2, (RED, RED, RED, PALE))),))
        self.comes(one, ("spot", "a", 1, 1, RED, PALE), wanted)
        one = picture(8, 8, (layer("a", plain(2, 2, RED)),))
        self.refused(one, ("spot", "a", 2, 2, CLEAR, RED))

    def test_no_such_node(self):
        for deed in DEEDS[:5]:
            for name in ("none", "aa", "z"):
                self.refused(START, deed[:1] + (name,) + deed[2:])
            self.refused(picture(1, 1), deed)

    def test_old_and_new_the_same(self):
        self.comes(START, ("strength", "a", HALF, HALF), START)
        self.refused(START, ("strength", "a", ONE, ONE))

    def test_huge_numbers(self):
        share = (1, 10 ** 5000)
        one = picture(1, 1, (layer("a"),))
        self.comes(one, ("strength", "a", ONE, share), picture(1, 1, (layer("a", strength=share),)))
        self.refused(one, ("strength", "a", share, ONE))
        self.refused(one, ("spot", "a", 10 ** 5000, 0, CLEAR, RED))
        self.refused(one, ("put", "", 10 ** 5000, tone("b")))
        self.refused(one, ("out", "", 10 ** 5000, tone("b")))


class DonePutsAndOuts(DoneCase):
    def test_put_at_each_number(self):
        for parent in ("", "g", "h", "k"):
            nodes = nodes_of(START, parent)
            for node in (layer("n"), tone("n"), group("n"), layer("n", BROAD, "cut", HALF, False, 1, 1, BROAD_MASK)):
                for number in range(len(nodes) + 1):
                    wanted = with_nodes(START, parent, nodes[:number] + (node,) + nodes[number:])
                    if not (parent == "k" and node[0] == "group"):
                        self.comes(START, ("put", parent, number, node), wanted)
                for number in (len(nodes) + 1, len(nodes) + 2, HUGE):
                    self.refused(START, ("put", parent, number, node))

    def test_out_of_each_number(self):
        for parent in ("", "g", "h"):
            nodes = nodes_of(START, parent)
            for number, node in enumerate(nodes):
                wanted = with_nodes(START, parent, nodes[:number] + nodes[number + 1:])
                self.comes(START, ("out", parent, number, node), wanted)
                for other in (0, 1, 2, 3, 4, HUGE):
                    if other != number:
                        self.refused(START, ("out", parent, other, node))

    def test_out_of_a_group_without_nodes(self):
        self.refused(START, ("out", "k", 0, tone("n")))
        self.refused(picture(1, 1), ("out", "", 0, tone("n")))

    def test_put_into_a_picture_without_nodes(self):
        self.comes(picture(1, 1), ("put", "", 0, DEEP), picture(1, 1, (DEEP,)))
        self.refused(picture(1, 1), ("put", "", 1, DEEP))

    def test_out_of_another_node(self):
        node = START[2][0]
        for place, part in ((1, "aa"), (2, "over"), (3, ONE), (4, False), (5, 0), (6, 0), (7, None), (8, plain(3, 2))):
            self.refused(START, ("out", "", 0, node[:place] + (part,) + node[place + 1:]))
        self.refused(START, ("out", "", 1, group("g", (), "multiply", (2, 3))))
        self.refused(START, ("out", "g", 1, node))

    def test_out_of_another_parent(self):
        self.refused(START, ("out", "", 0, node_of(START, "b")))
        self.refused(START, ("out", "h", 0, node_of(START, "b")))

    def test_no_such_parent(self):
        for word in ("put", "out"):
            for parent in ("none", "gg", "n", "m"):
                self.refused(START, (word, parent, 0, tone("n")))
        self.refused(START, ("put", "n", 0, group("n")))

    def test_a_parent_that_is_no_group(self):
        for parent in "abtcu":
            self.refused(START, ("put", parent, 0, tone("n")))
            self.refused(START, ("out", parent, 0, tone("n")))

    def test_a_name_that_the_picture_has(self):
        for parent in ("", "g", "h", "k"):
            for name in "agbthcku":
                self.refused(START, ("put", parent, 0, tone(name)))
                self.refused(START, ("put", parent, 0, layer(name)))
                if parent != "k":
                    self.refused(START, ("put", parent, 0, group("n", (tone("m"), tone(name)))))

    def test_groups_within_one_another(self):
        three = group("x", (group("y", (group("z", (layer("w"),)),)),))
        deep = {"": three, "g": three[5][0], "h": three[5][0][5][0]}
        for parent, node in deep.items():
            nodes = nodes_of(START, parent)
            self.comes(START, ("put", parent, 0, node), with_nodes(START, parent, (node,) + nodes))
            self.refused(START, ("put", parent, 0, group("v", (node,))))
            self.refused(START, ("put", parent, 0, group("v", (layer("o"), tone("l"), node))))
        self.refused(START, ("put", "k", 0, group("v")))
        self.comes(START, ("put", "k", 0, layer("v")), with_nodes(START, "k", (layer("v"),)))

    def test_what_comes_is_no_picture(self):
        for node in (layer("abcdefg"), layer("n", left=10), layer("n", plain(9, 1))):
            self.refused(START, ("put", "", 0, node))

    def test_parts_of_nodes_are_kept_as_they_are(self):
        told = done(START, ("put", "h", 1, tone("n", "turn", HALF, False)))
        self.assertEqual(node_of(told, "n"), tone("n", "turn", HALF, False))
        self.assertEqual(node_of(told, "h")[:5], node_of(START, "h")[:5])
        self.assertEqual(node_of(told, "g")[:5], node_of(START, "g")[:5])


class AllPictures(DoneCase):
    def test_deeds_that_fit(self):
        draws = Draws(21)
        many = {}
        for one in PICTURES * 4:
            deed = draws.deed(one)
            wanted = done_by_document(one, deed)
            if wanted is None:
                self.refused(one, deed)
            else:
                self.comes(one, deed, wanted)
                many[deed[0]] = many.get(deed[0], 0) + 1
        self.assertEqual(sorted(many), sorted(deed[0] for deed in DEEDS))
        self.assertGreater(min(many.values()), 10)

    def test_deeds_of_other_pictures(self):
        draws = Draws(22)
        for number, one in enumerate(PICTURES):
            deed = draws.deed(PICTURES[number - 1])
            wanted = done_by_document(one, deed)
            if wanted is None:
                self.refused(one, deed)
            else:
                self.comes(one, deed, wanted)


class Contrary(unittest.TestCase):
    def test_each_kind(self):
        for deed, wanted in (
            (("strength", "a", ONE, HALF), ("strength", "a", HALF, ONE)),
            (("shown", "a", True, False), ("shown", "a", False, True)),
            (("manner", "a", "over", "cut"), ("manner", "a", "cut", "over")),
            (("place", "a", (0, 1), (-9, 9)), ("place", "a", (-9, 9), (0, 1))),
            (("spot", "a", 0, 1, CLEAR, RED), ("spot", "a", 0, 1, RED, CLEAR)),
            (("put", "g", 3, layer("a")), ("out", "g", 3, layer("a"))),
            (("put", "", 0, layer("a")), ("out", "", 0, layer("a"))),
            (("out", "g", 3, DEEP), ("put", "g", 3, DEEP)),
        ):
            self.assertEqual(contrary(deed), wanted)
            self.assertEqual(contrary(wanted), deed)
            self.assertIs(is_deed(contrary(deed)), True)


if __name__ == "__main__":
    unittest.main()
