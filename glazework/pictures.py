"""Pictures: tuples (wide, high, nodes), the lowest node first; what a node is, and where it stands."""

from glazework.errors import NoName
from glazework.nodes import (
    inner_nodes, is_group, is_layer, is_shown, is_tone, left_of, manner_of, mask_of, name_of, rule_of, sheet_of,
    strength_of, top_of, with_inner_nodes,
)
from glazework.shares import is_share, is_whole
from glazework.sheets import is_sheet, is_sized
from glazework.spots import MANNERS, RULES

LETTERS = "abcdefghijklmnopqrstuvwxyz"
DEEPEST = 3
FARTHEST = 9


def is_name(thing):
    return isinstance(thing, str) and 1 <= len(thing) <= 6 and all([sign in LETTERS for sign in thing])


def is_truth(thing):
    return isinstance(thing, bool)


def is_offset(thing):
    return is_whole(thing) and -FARTHEST <= thing <= FARTHEST


def is_mask(thing, sheet):
    if thing is None:
        return True
    if not isinstance(thing, tuple) or len(thing) != len(sheet[2]):
        return False
    return all([is_share(part) for part in thing])


def is_layer_of_parts(thing):
    if len(thing) != 9 or manner_of(thing) not in MANNERS or not is_sheet(sheet_of(thing)):
        return False
    return is_offset(left_of(thing)) and is_offset(top_of(thing)) and is_mask(mask_of(thing), sheet_of(thing))


def is_group_of_nodes(thing, deepest):
    if len(thing) != 6 or manner_of(thing) not in MANNERS or deepest == 0:
        return False
    return are_nodes(inner_nodes(thing), deepest - 1)


def has_node_form(thing, deepest):
    if not isinstance(thing, tuple) or len(thing) < 5:
        return False
    if not is_name(name_of(thing)) or not is_share(strength_of(thing)) or not is_truth(is_shown(thing)):
        return False
    if is_layer(thing):
        return is_layer_of_parts(thing)
    if is_group(thing):
        return is_group_of_nodes(thing, deepest)
    return is_tone(thing) and len(thing) == 5 and rule_of(thing) in RULES


def are_nodes(thing, deepest):
    return isinstance(thing, tuple) and all([has_node_form(part, deepest) for part in thing])


def names_among(nodes):
    names = []
    for node in nodes:
        names.append(name_of(node))
        if is_group(node):
            names.extend(names_among(inner_nodes(node)))
    return names


def are_names_unlike(nodes):
    names = names_among(nodes)
    return len(set(names)) == len(names)


def is_node(thing):
    return has_node_form(thing, DEEPEST) and are_names_unlike((thing,))


def is_picture(thing):
    return is_sized(thing) and are_nodes(thing[2], DEEPEST) and are_names_unlike(thing[2])


def names_in(picture):
    return names_among(picture[2])


def number_among(nodes, name):
    for number, node in enumerate(nodes):
        if name_of(node) == name:
            return number
    return None


def tuple_with(nodes, name):
    if number_among(nodes, name) is not None:
        return nodes
    for node in nodes:
        if is_group(node):
            told = tuple_with(inner_nodes(node), name)
            if told is not None:
                return told
    return None


def nodes_beside(picture, name):
    # The whole tuple of nodes in which the named one stands, itself too.
    nodes = tuple_with(picture[2], name)
    if nodes is None:
        raise NoName(f"no node has the name {name!r}")
    return nodes


def nodes_with_others(nodes, name, others):
    if number_among(nodes, name) is not None:
        return others
    return tuple([node_with_others(node, name, others) for node in nodes])


def node_with_others(node, name, others):
    if not is_group(node):
        return node
    return with_inner_nodes(node, nodes_with_others(inner_nodes(node), name, others))


def with_nodes_beside(picture, name, others):
    # Other nodes in the stead of all that nodes_beside tells.
    return (picture[0], picture[1], nodes_with_others(picture[2], name, others))


def node_named(picture, name):
    nodes = nodes_beside(picture, name)
    return nodes[number_among(nodes, name)]


def with_node(picture, name, node):
    nodes = nodes_beside(picture, name)
    number = number_among(nodes, name)
    return with_nodes_beside(picture, name, nodes[:number] + (node,) + nodes[number + 1:])
