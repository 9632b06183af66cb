"""Nodes of which nothing is seen, and pictures without them."""

from glazework.errors import NoName
from glazework.flats import brought_sheet
from glazework.nodes import (
    inner_nodes, is_group, is_shown, is_tone, manner_of, name_of, strength_of, with_inner_nodes,
)
from glazework.pictures import names_in
from glazework.shares import ONE
from glazework.spots import CLEAR


def covers(picture, node):
    if is_tone(node) or not is_shown(node) or manner_of(node) != "over":
        return False
    return all([spot[0] == ONE for spot in brought_sheet(picture, node)[2]])


def brings_nothing(picture, node):
    if not is_shown(node) or strength_of(node)[0] == 0:
        return True
    if is_tone(node):
        return False
    return all([spot == CLEAR for spot in brought_sheet(picture, node)[2]])


def highest_cover(picture, nodes):
    # All below the highest one that covers are needless; 0 leaves none below it.
    for number, node in reversed(list(enumerate(nodes))):
        if covers(picture, node):
            return number
    return 0


def needless_among(picture, nodes):
    names = []
    lowest_seen = highest_cover(picture, nodes)
    for number, node in enumerate(nodes):
        if number < lowest_seen or brings_nothing(picture, node):
            names.append(name_of(node))
        elif is_group(node):
            names.extend(needless_among(picture, inner_nodes(node)))
    return names


def needless(picture):
    return needless_among(picture, picture[2])


def nodes_without(nodes, names):
    kept = []
    for node in nodes:
        if name_of(node) in names:
            continue
        if is_group(node):
            kept.append(with_inner_nodes(node, nodes_without(inner_nodes(node), names)))
        else:
            kept.append(node)
    return tuple(kept)


def without(picture, names):
    known = names_in(picture)
    for name in names:
        if name not in known:
            raise NoName(f"no node has the name {name!r}")
    return (picture[0], picture[1], nodes_without(picture[2], names))
