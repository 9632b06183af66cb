"""The parts of a node by their names, so that no other file counts places in its tuple."""

from glazework.shares import ONE


def kind_of(node):
    return node[0]


def is_layer(node):
    return kind_of(node) == "layer"


def is_group(node):
    return kind_of(node) == "group"


def is_tone(node):
    return kind_of(node) == "tone"


def name_of(node):
    return node[1]


def manner_of(node):
    return node[2]


def rule_of(tone):
    return tone[2]


def strength_of(node):
    return node[3]


def is_shown(node):
    return node[4]


def left_of(layer):
    return layer[5]


def top_of(layer):
    return layer[6]


def mask_of(layer):
    return layer[7]


def sheet_of(layer):
    return layer[8]


def inner_nodes(group):
    return group[5]


def place_of(layer):
    return (left_of(layer), top_of(layer))


def with_manner(node, manner):
    return node[:2] + (manner,) + node[3:]


def with_strength(node, strength):
    return node[:3] + (strength,) + node[4:]


def with_shown(node, shown):
    return node[:4] + (shown,) + node[5:]


def with_place(layer, place):
    return layer[:5] + place + layer[7:]


def with_sheet(layer, sheet):
    return layer[:8] + (sheet,)


def with_inner_nodes(group, nodes):
    return group[:5] + (nodes,)


def plain_layer(name, manner, sheet):
    return ("layer", name, manner, ONE, True, 0, 0, None, sheet)
