"""Shares, spots and other things that several tests go through."""

from fractions import Fraction

ZERO = (0, 1)
ONE = (1, 1)
HALF = (1, 2)
CLEAR = (ZERO, ZERO, ZERO, ZERO)
WHITE = (ONE, ONE, ONE, ONE)
BLACK = (ONE, ZERO, ZERO, ZERO)
HUGE = 10 ** 300

MANNERS = ("over", "multiply", "screen", "plus", "atop", "cut")
RULES = ("turn", "grey", "round")

SPOTS = (
    CLEAR,
    WHITE,
    BLACK,
    (ONE, ONE, ZERO, HALF),
    (ONE, (1, 3), (2, 7), (5, 6)),
    (HALF, ZERO, ZERO, ZERO),
    (HALF, HALF, HALF, HALF),
    (HALF, HALF, ZERO, (1, 4)),
    ((2, 3), (1, 3), (1, 2), (2, 3)),
    ((3, 4), (1, 5), (3, 4), ZERO),
    ((HUGE, HUGE + 1), (1, HUGE), (HUGE - 1, HUGE + 1), (1, 3)),
)

STRENGTHS = (ZERO, ONE, HALF, (1, 3), (5, 7), (HUGE, HUGE + 1))


def nested(depth, make):
    """A thing so many deep, of lists or of tuples."""
    thing = 0
    for _ in range(depth):
        thing = make([thing, 1])
    return thing


# Neither shares nor spots, of all kinds that the is_.. functions take.
OTHER_THINGS = (
    None, True, False, 0, 1, -1, 2 ** 70, "", "1/2", "ab", "abcd", [], (), [[]], ((),), [None], (None,),
    (None, None), ("0", "1"), [0, 1], (0,), (0, 1, 1), (None,) * 4, ("",) * 4, ((),) * 4, ([],) * 4, "0011",
    nested(20, list), nested(20, tuple), nested(25, tuple), [nested(20, list)] * 2, (nested(20, tuple),) * 2,
    (nested(20, list),) * 4, (nested(20, tuple),) * 4,
)


def fraction(share):
    return Fraction(share[0], share[1])


def fractions_of(spot):
    return [fraction(part) for part in spot]


def share(number):
    number = Fraction(number)
    return (number.numerator, number.denominator)


RED = (ONE, ONE, ZERO, ZERO)
PALE = (HALF, HALF, ZERO, (1, 4))
DIM = ((2, 3), (1, 3), (1, 2), (2, 3))


def sheet_of(wide, spots):
    """A sheet of spots, row by row."""
    return (wide, len(spots) // wide, tuple(spots))


def plain(wide, high, spot=PALE):
    return (wide, high, (spot,) * (wide * high))


# Not as wide as high, and no spot twice: what is mirrored or turned is seen by it.
BROAD = sheet_of(3, SPOTS[:6])


def layer(name, sheet=plain(2, 2), manner="over", strength=ONE, shown=True, left=0, top=0, mask=None):
    return ("layer", name, manner, strength, shown, left, top, mask, sheet)


def group(name, nodes=(), manner="over", strength=ONE, shown=True):
    return ("group", name, manner, strength, shown, tuple(nodes))


def tone(name, rule="turn", strength=ONE, shown=True):
    return ("tone", name, rule, strength, shown)


def picture(wide, high, nodes=()):
    return (wide, high, tuple(nodes))


NEW_NAMES = tuple("xyz" + one + other for one in "abcdefgh" for other in "ijklmnop")


class Draws:
    """Numbers that are the same each time, so that a test that fails once fails again."""

    def __init__(self, seed):
        self.state = seed * 7919 + 12345

    def below(self, many):
        self.state = (self.state * 6364136223846793005 + 1442695040888963407) % 2 ** 64
        return (self.state >> 33) % many

    def one_of(self, things):
        return things[self.below(len(things))]

    def strength(self):
        return self.one_of((ONE, ONE, ONE, HALF, (1, 3), ZERO))

    def shown(self):
        return self.below(6) > 0

    def sheet(self, wide, high):
        kind = self.below(4)
        if kind == 0:
            return plain(wide, high, self.one_of((CLEAR, RED, BLACK, WHITE)))
        spots = (RED, BLACK, WHITE) if kind == 1 else SPOTS[:10]
        return sheet_of(wide, [self.one_of(spots) for _ in range(wide * high)])

    def layer(self, name, wide, high):
        if self.below(2):
            left, top = 0, 0
        else:
            left, top = self.below(7) - 3, self.below(7) - 3
            wide, high = self.below(4) + 1, self.below(4) + 1
        mask = None
        if self.below(4) == 0:
            mask = tuple(self.strength() for _ in range(wide * high))
        return layer(
            name, self.sheet(wide, high), self.manner(), self.strength(), self.shown(), left, top, mask,
        )

    def manner(self):
        return self.one_of(("over", "over") + MANNERS)

    def node(self, names, wide, high, deepest):
        name = names.pop(0)
        kind = self.below(5)
        if kind == 0:
            return tone(name, self.one_of(RULES), self.strength(), self.shown())
        if kind < 3 and deepest > 0:
            nodes = self.nodes(names, wide, high, deepest - 1)
            return group(name, nodes, self.manner(), self.strength(), self.shown())
        return self.layer(name, wide, high)

    def nodes(self, names, wide, high, deepest):
        return [self.node(names, wide, high, deepest) for _ in range(self.below(4))]

    def put(self, one, parents):
        parent, beside = self.one_of(parents)
        taken = [node[1] for node, nodes in all_nodes(one[2])]
        names = [name for name in NEW_NAMES if name not in taken]
        names = names[self.below(3):]
        return ("put", parent, self.below(len(beside) + 1), self.node(names, 1, 1, 1))

    def out(self, one, parents):
        parent, beside = self.one_of([(name, nodes) for name, nodes in parents if nodes])
        number = self.below(len(beside))
        return ("out", parent, number, beside[number])

    def spot_deed(self, node):
        wide, high, spots = node[8]
        number = self.below(len(spots))
        return ("spot", node[1], number % wide, number // wide, spots[number], self.one_of(SPOTS))

    def deed(self, one):
        """A deed that fits a picture, but for groups that would stand too deep."""
        nodes = [node for node, beside in all_nodes(one[2])]
        parents = [("", one[2])] + [(node[1], node[5]) for node in nodes if node[0] == "group"]
        kind = self.below(9)
        if kind < 3 or not nodes:
            return self.put(one, parents)
        if kind < 5:
            return self.out(one, parents)
        node = self.one_of(nodes)
        if node[0] == "layer" and kind == 5:
            return ("place", node[1], node[5:7], (self.below(19) - 9, self.below(19) - 9))
        if node[0] == "layer" and kind == 6:
            return self.spot_deed(node)
        if node[0] != "tone" and kind == 7:
            return ("manner", node[1], node[2], self.one_of(MANNERS))
        if self.below(2):
            return ("shown", node[1], node[4], not node[4])
        return ("strength", node[1], node[3], self.one_of(STRENGTHS))

    def picture(self):
        names = [one + other for one in "abcdefghij" for other in "klmnopqrst"]
        wide, high = self.below(3) + 1, self.below(3) + 1
        return picture(wide, high, self.nodes(names, wide, high, 3) + self.nodes(names, wide, high, 2))


PICTURES = tuple(Draws(seed).picture() for seed in range(120))


def all_nodes(nodes):
    """Each node with the tuple in which it stands, from the lowest one on."""
    told = []
    for node in nodes:
        told.append((node, nodes))
        if node[0] == "group":
            told.extend(all_nodes(node[5]))
    return told
