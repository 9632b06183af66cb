"""Nodes that are made one, opened, or change places, with nothing seen of it."""

from glazework.errors import NoMerge, NoOpen, NoSwap
from glazework.flats import brought_sheet
from glazework.nodes import inner_nodes, is_group, is_shown, is_tone, manner_of, name_of, plain_layer, strength_of
from glazework.pictures import nodes_beside, number_among, with_nodes_beside
from glazework.shares import ONE
from glazework.sheets import blended_sheets

# Of three spots blended by one of these, either two may be blended first.
FROM_EITHER_END = ("over", "multiply", "screen", "plus")
# Of two spots blended by one of these, either may be above.
IN_EITHER_ORDER = ("multiply", "screen", "plus")


def have_manner(nodes, manner):
    return all([not is_tone(node) and manner_of(node) == manner for node in nodes])


def can_be_one(lower, upper):
    if not is_shown(lower) or not is_shown(upper) or manner_of(lower) not in FROM_EITHER_END:
        return False
    return have_manner((lower, upper), manner_of(lower))


def made_one(picture, lower, upper):
    manner = manner_of(lower)
    sheet = blended_sheets(manner, brought_sheet(picture, upper), brought_sheet(picture, lower))
    return plain_layer(name_of(lower), manner, sheet)


def merged(picture, name):
    nodes = nodes_beside(picture, name)
    number = number_among(nodes, name)
    if number == 0 or not can_be_one(nodes[number - 1], nodes[number]):
        raise NoMerge(f"{name!r} can not be made one with what is right below it")
    one = made_one(picture, nodes[number - 1], nodes[number])
    return with_nodes_beside(picture, name, nodes[:number - 1] + (one,) + nodes[number + 1:])


def can_be_opened(node):
    if not is_group(node) or not is_shown(node) or strength_of(node) != ONE:
        return False
    if manner_of(node) not in FROM_EITHER_END:
        return False
    return have_manner([inner for inner in inner_nodes(node) if is_shown(inner)], manner_of(node))


def opened(picture, name):
    nodes = nodes_beside(picture, name)
    number = number_among(nodes, name)
    if not can_be_opened(nodes[number]):
        raise NoOpen(f"{name!r} is no group that can be left out around its nodes")
    return with_nodes_beside(picture, name, nodes[:number] + inner_nodes(nodes[number]) + nodes[number + 1:])


def can_change_places(lower, upper):
    if not is_shown(lower) or not is_shown(upper):
        return True
    return manner_of(lower) in IN_EITHER_ORDER and have_manner((lower, upper), manner_of(lower))


def swapped(picture, name):
    nodes = nodes_beside(picture, name)
    number = number_among(nodes, name)
    if number + 1 == len(nodes) or not can_change_places(nodes[number], nodes[number + 1]):
        raise NoSwap(f"{name!r} can not change places with what is right above it")
    both = (nodes[number + 1], nodes[number])
    return with_nodes_beside(picture, name, nodes[:number] + both + nodes[number + 2:])
