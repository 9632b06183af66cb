"""Shares, spots and other things that several tests go through."""

from fractions import Fraction

ZERO = (0, 1)
ONE = (1, 1)
HALF = (1, 2)
CLEAR = (ZERO, ZERO, ZERO, ZERO)
WHITE = (ONE, ONE, ONE, ONE)
BLACK = (ONE, ZERO, ZERO, ZERO)
HUGE = 10 ** 300

MANNERS = ("over", "multiply", "screen", "plus", "atop", "cut")
RULES = ("turn", "grey", "round")

SPOTS = (
    CLEAR,
    WHITE,
    BLACK,
    (ONE, ONE, ZERO, HALF),
    (ONE, (1, 3), (2, 7), (5, 6)),
    (HALF, ZERO, ZERO, ZERO),
    (HALF, HALF, HALF, HALF),
    (HALF, HALF, ZERO, (1, 4)),
    ((2, 3), (1, 3), (1, 2), (2, 3)),
    ((3, 4), (1, 5), (3, 4), ZERO),
    ((HUGE, HUGE + 1), (1, HUGE), (HUGE - 1, HUGE + 1), (1, 3)),
)

STRENGTHS = (ZERO, ONE, HALF, (1, 3), (5, 7), (HUGE, HUGE + 1))


def nested(depth, make):
    """A thing so many deep, of lists or of tuples."""
    thing = 0
    for _ in range(depth):
        thing = make([thing, 1])
    return thing


# Neither shares nor spots, of all kinds that the is_.. functions take.
OTHER_THINGS = (
    None, True, False, 0, 1, -1, 2 ** 70, "", "1/2", "ab", "abcd", [], (), [[]], ((),), [None], (None,),
    (None, None), ("0", "1"), [0, 1], (0,), (0, 1, 1), (None,) * 4, ("",) * 4, ((),) * 4, ([],) * 4, "0011",
    nested(20, list), nested(20, tuple), nested(25, tuple), [nested(20, list)] * 2, (nested(20, tuple),) * 2,
    (nested(20, list),) * 4, (nested(20, tuple),) * 4,
)


def fraction(share):
    return Fraction(share[0], share[1])


def fractions_of(spot):
    return [fraction(part) for part in spot]


def share(number):
    number = Fraction(number)
    return (number.numerator, number.denominator)


def is_least_share(thing):
    """Told without the program's own is_share."""
    if type(thing) is not tuple or [type(part) for part in thing] != [int, int]:
        return False
    return thing[1] > 0 and 0 <= thing[0] <= thing[1] and share(fraction(thing)) == thing


def is_sound_spot(thing):
    """Told without the program's own is_spot."""
    if type(thing) is not tuple or len(thing) != 4 or not all(is_least_share(part) for part in thing):
        return False
    return all(fraction(colour) <= fraction(thing[0]) for colour in thing[1:])
