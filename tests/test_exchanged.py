"""8.3, and 0.2 (f) as far as it speaks of two deeds."""

import copy
import itertools
import unittest

from bydocument import exchanged_by_document
from glazework.deeds import done, exchanged, is_deed
from glazework.errors import NotSo
from samples import (
    BLACK, BROAD, CLEAR, DIM, HALF, ONE, PALE, PICTURES, RED, WHITE, ZERO,
    Draws, all_nodes, group, layer, picture, plain, tone,
)

START = picture(2, 2, (
    layer("a", plain(2, 2, RED)),
    group("g", (
        layer("b", BROAD),
        group("h", (layer("c"), layer("d"), layer("e"), layer("f"))),
        tone("t"),
        layer("i"),
    )),
    layer("j"),
    tone("u"),
    group("k"),
))

NODES = {node[1]: node for node, beside in all_nodes(START[2])}

VALUES = (
    ("strength", ONE, HALF), ("shown", True, False), ("manner", "over", "plus"), ("place", (0, 0), (1, -1)),
    ("spot", 0, 0, CLEAR, PALE), ("spot", 1, 0, CLEAR, PALE), ("spot", 0, 1, CLEAR, PALE),
)


def value_deed(name, value):
    return value[:1] + (name,) + value[1:]


class ExchangedCase(unittest.TestCase):
    def told(self, one, other):
        before = copy.deepcopy((one, other))
        told = exchanged(one, other)
        self.assertEqual(told, exchanged_by_document(one, other), (one, other))
        self.assertEqual((one, other), before)
        return told

    def holds(self, one, other):
        self.assertIsNone(self.told(one, other), (one, other))

    def goes(self, one, other, wanted):
        """Asks for the tuple, and that exchanged back they are as they were."""
        told = self.told(one, other)
        self.assertEqual(told, wanted, (one, other))
        self.assertTrue(is_deed(told[0]) and is_deed(told[1]))
        self.assertEqual(exchanged(told[0], told[1]), (one, other))

    def stays(self, one, other):
        self.goes(one, other, (other, one))

    def leads_to_the_same(self, start, one, other):
        told = self.told(one, other)
        if told is not None:
            behind = done(done(start, one), other)
            self.assertEqual(done(done(start, told[0]), told[1]), behind, (one, other))
            self.assertEqual(exchanged(told[0], told[1]), (one, other))


class Values(ExchangedCase):
    def test_the_same_of_one_node(self):
        for value in VALUES:
            deed = value_deed("a", value)
            self.holds(deed, deed)
            self.holds(deed, deed[:-2] + (deed[-1], deed[-2]))

    def test_another_of_one_node(self):
        for value, other in itertools.permutations(VALUES, 2):
            self.stays(value_deed("a", value), value_deed("a", other))

    def test_of_unlike_nodes(self):
        for value, other in itertools.product(VALUES, repeat=2):
            self.stays(value_deed("a", value), value_deed("b", other))

    def test_spots(self):
        for place, other in itertools.product(((0, 0), (0, 1), (1, 0), (1, 1), (9, 9)), repeat=2):
            one = ("spot", "a") + place + (CLEAR, RED)
            two = ("spot", "a") + other + (RED, WHITE)
            if place == other:
                self.holds(one, two)
            else:
                self.stays(one, two)
            self.stays(one, ("spot", "b") + other + (RED, WHITE))

    def test_both_ways_lead_to_the_same_picture(self):
        start = picture(2, 2, (layer("a", plain(2, 2, CLEAR)), group("g", (layer("b", plain(2, 2, CLEAR)),))))
        for value, other in itertools.product(VALUES, repeat=2):
            if value != other:
                self.leads_to_the_same(start, value_deed("a", value), value_deed("a", other))
            self.leads_to_the_same(start, value_deed("a", value), value_deed("b", other))


class ValuesAndNodes(ExchangedCase):
    def test_the_name_is_in_the_node(self):
        node = group("n", (layer("m"), group("o", (tone("l"),))))
        for word in ("put", "out"):
            for parent in ("", "g", "n"):
                deed = (word, parent, 0, node)
                for name, value in itertools.product("nmol", VALUES):
                    self.holds(deed, value_deed(name, value))
                    self.holds(value_deed(name, value), deed)

    def test_the_name_is_another(self):
        node = group("n", (layer("m"), group("o", (tone("l"),))))
        for word in ("put", "out"):
            for number in (0, 1, 2):
                for name, value in itertools.product(("a", "g", "nn", "x"), VALUES):
                    self.stays((word, "g", number, node), value_deed(name, value))
                    self.stays(value_deed(name, value), (word, "g", number, node))

    def test_values_of_the_parent(self):
        one = ("strength", "g", ONE, HALF)
        for deed in (("out", "g", 0, NODES["b"]), ("put", "g", 4, tone("n")), ("put", "", 0, tone("n"))):
            self.stays(one, deed)
            self.stays(deed, one)
            self.leads_to_the_same(START, one, deed)
            self.leads_to_the_same(START, deed, one)

    def test_the_parent_is_in_the_node(self):
        node = group("n", (layer("m"), group("o", (tone("l"),))))
        for word, second in itertools.product(("put", "out"), repeat=2):
            for parent in "nmol":
                for number, other in itertools.product((0, 1, 5), repeat=2):
                    inner = (second, parent, other, tone("x"))
                    self.holds((word, "g", number, node), inner)
                    self.holds(inner, (word, "g", number, node))

    def test_a_name_in_both_nodes(self):
        nodes = (layer("n"), tone("n"), group("x", (layer("n"),)), group("y", (group("z", (tone("n"), tone("o"))),)))
        for word, second in itertools.product(("put", "out"), repeat=2):
            for node, other in itertools.product(nodes, repeat=2):
                for parent, number in itertools.product(("", "g", "h"), (0, 3, 9)):
                    self.holds((word, "g", 3, node), (second, parent, number, other))
                    self.holds((second, parent, number, other), (word, "g", 3, node))

    def test_put_and_what_it_brought(self):
        for deed in (("out", "", 1, group("n")), ("put", "n", 0, tone("m")), ("shown", "n", True, False)):
            self.holds(("put", "", 1, group("n")), deed)

    def test_out_and_put_again(self):
        for parent in ("", "g", "h"):
            for number in range(4):
                self.holds(("out", "", 0, NODES["a"]), ("put", parent, number, NODES["a"]))


class Numbers(ExchangedCase):
    """Puts and outs of one parent, in all four pairs."""

    def deeds(self, word, number, second, other, parent):
        return (word, parent, number, layer("x")), (second, parent, other, group("y", (tone("z"),)))

    def asked(self, pair, table):
        for (number, other), numbers in table.items():
            for parent in ("", "g"):
                one, two = self.deeds(pair[0], number, pair[1], other, parent)
                if numbers is None:
                    self.holds(one, two)
                else:
                    first, second = numbers
                    self.goes(one, two, (two[:2] + (first,) + two[3:], one[:2] + (second,) + one[3:]))

    def test_put_and_put(self):
        # The number of the one and of the other; then of the other and of the one, as they are if it is done first.
        self.asked(("put", "put"), {
            (3, 0): (0, 4), (3, 1): (1, 4), (3, 2): (2, 4), (3, 3): (3, 4), (3, 4): (3, 3), (3, 5): (4, 3),
            (3, 9): (8, 3), (0, 0): (0, 1), (0, 1): (0, 0), (1, 0): (0, 2),
        })

    def test_put_and_out(self):
        self.asked(("put", "out"), {
            (3, 0): (0, 2), (3, 1): (1, 2), (3, 2): None, (3, 3): None, (3, 4): None, (3, 5): (4, 3),
            (3, 9): (8, 3), (0, 0): None, (0, 1): None, (0, 2): (1, 0), (1, 0): None, (2, 0): (0, 1),
        })

    def test_out_and_put(self):
        self.asked(("out", "put"), {
            (3, 0): (0, 4), (3, 1): (1, 4), (3, 2): (2, 4), (3, 3): None, (3, 4): (5, 3), (3, 5): (6, 3),
            (3, 9): (10, 3), (0, 0): None, (0, 1): (2, 0), (1, 0): (0, 2),
        })

    def test_out_and_out(self):
        self.asked(("out", "out"), {
            (3, 0): (0, 2), (3, 1): (1, 2), (3, 2): (2, 2), (3, 3): (4, 3), (3, 4): (5, 3), (3, 9): (10, 3),
            (0, 0): (1, 0), (0, 1): (2, 0), (1, 0): (0, 0),
        })

    def test_unlike_parents(self):
        for word, second in itertools.product(("put", "out"), repeat=2):
            for number, other in itertools.product(range(4), repeat=2):
                for parent, further in itertools.permutations(("", "g", "h"), 2):
                    self.stays((word, parent, number, layer("x")), (second, further, other, layer("y")))

    def test_all_of_one_parent(self):
        for parent in ("", "g", "h", "k"):
            nodes = START[2] if parent == "" else NODES[parent][5]
            for one in self.all_deeds(parent, nodes, "x"):
                behind = done(START, one)
                inner = [node for node, beside in all_nodes(behind[2]) if node[1] == parent]
                nodes_behind = behind[2] if parent == "" else inner[0][5]
                for other in self.all_deeds(parent, nodes_behind, "y"):
                    self.leads_to_the_same(START, one, other)

    def all_deeds(self, parent, nodes, name):
        puts = [("put", parent, number, layer(name)) for number in range(len(nodes) + 1)]
        return puts + [("out", parent, number, node) for number, node in enumerate(nodes)]


class AllPictures(ExchangedCase):
    def next_deed(self, draws, one):
        """A deed that fits, and the picture that comes of it."""
        while True:
            deed = draws.deed(one)
            try:
                return deed, done(one, deed)
            except NotSo:
                continue

    def test_both_ways_lead_to_the_same_picture(self):
        draws = Draws(31)
        held, kinds = 0, set()
        for start in PICTURES * 6:
            one, behind = self.next_deed(draws, start)
            other, last = self.next_deed(draws, behind)
            self.leads_to_the_same(start, one, other)
            if exchanged(one, other) is None:
                held += 1
            else:
                kinds.add((one[0], other[0]))
        self.assertGreater(held, 30)
        self.assertGreater(len(kinds), 35)

    def test_deeds_that_do_not_follow_one_another(self):
        draws = Draws(32)
        for number, start in enumerate(PICTURES):
            for turn in range(4):
                one = draws.deed(start)
                other = draws.deed(PICTURES[number - 1])
                self.assertEqual(exchanged(one, other), exchanged_by_document(one, other))


class ByHand(ExchangedCase):
    def test_a_chain(self):
        """Told in words: b goes out of g, the tone behind it then has the number 1, and had 2 ahead of it."""
        one = ("out", "g", 0, NODES["b"])
        other = ("out", "g", 1, NODES["t"])
        self.goes(one, other, (("out", "g", 2, NODES["t"]), one))
        self.leads_to_the_same(START, one, other)

    def test_a_value_and_its_node(self):
        one = ("strength", "b", ONE, ZERO)
        changed = NODES["b"][:3] + (ZERO,) + NODES["b"][4:]
        self.holds(one, ("out", "g", 0, changed))
        self.holds(one, ("out", "", 1, group("g", (changed,) + NODES["g"][5][1:])))
        self.stays(one, ("out", "g", 2, NODES["t"]))

    def test_spots_of_one_sheet(self):
        one = ("spot", "b", 0, 0, CLEAR, DIM)
        self.stays(one, ("spot", "b", 1, 1, BROAD[2][4], BLACK))
        self.holds(one, ("spot", "b", 0, 0, DIM, BLACK))


if __name__ == "__main__":
    unittest.main()
