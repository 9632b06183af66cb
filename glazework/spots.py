"""Spots: a cover, a red, a green and a blue, each a share, no colour greater than the cover.

The letters are those of the document: c and d are the covers above and below,
x and y the colours above and below.
"""

from glazework.shares import added, at_most_one, divided, is_at_most, is_share, lessened, rest_of, times

MANNERS = ("over", "multiply", "screen", "plus", "atop", "cut")
RULES = ("turn", "grey", "round")
CLEAR = ((0, 1), (0, 1), (0, 1), (0, 1))
THIRD = (1, 3)


def is_spot(thing):
    if not isinstance(thing, tuple) or len(thing) != 4:
        return False
    if not all([is_share(part) for part in thing]):
        return False
    return all([is_at_most(colour, thing[0]) for colour in thing[1:]])


def weighted(spot, share):
    return tuple([times(part, share) for part in spot])


def blended_cover(manner, c, d):
    if manner == "plus":
        return at_most_one(added(c, d))
    if manner == "atop":
        return d
    if manner == "cut":
        return times(d, rest_of(c))
    return lessened(added(c, d), times(c, d))


def blended_colour(manner, c, d, x, y):
    if manner == "plus":
        return at_most_one(added(x, y))
    if manner == "screen":
        return lessened(added(x, y), times(x, y))
    # What shines through from below has the same part in all the other manners.
    through = times(y, rest_of(c))
    if manner == "over":
        return added(x, through)
    if manner == "multiply":
        return added(added(times(x, y), times(x, rest_of(d))), through)
    if manner == "atop":
        return added(times(x, d), through)
    return through


def blended(manner, above, below):
    c = above[0]
    d = below[0]
    colours = [blended_colour(manner, c, d, x, y) for x, y in zip(above[1:], below[1:])]
    return (blended_cover(manner, c, d), colours[0], colours[1], colours[2])


def by_rule(rule, spot):
    cover = spot[0]
    red = spot[1]
    green = spot[2]
    blue = spot[3]
    if rule == "turn":
        return (cover, lessened(cover, red), lessened(cover, green), lessened(cover, blue))
    if rule == "grey":
        mean = times(added(added(red, green), blue), THIRD)
        return (cover, mean, mean, mean)
    return (cover, green, blue, red)


def mixed(strength, new, old):
    return added(times(strength, new), times(rest_of(strength), old))


def toned(rule, spot, strength):
    return tuple([mixed(strength, new, old) for new, old in zip(by_rule(rule, spot), spot)])


def straight(spot):
    cover = spot[0]
    if cover[0] == 0:
        return None
    return tuple([divided(colour, cover) for colour in spot[1:]])


def level(share):
    # Half a step is added ahead of rounding down, so a tie goes to the greater number.
    return (2 * 255 * share[0] + share[1]) // (2 * share[1])


def levels(spot):
    return tuple([level(part) for part in spot])
