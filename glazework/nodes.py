"""The parts of a node by their names, so that no other file counts places in its tuple."""

from glazework.shares import ONE


def is_layer(node):
    return node[0] == "layer"


def is_group(node):
    return node[0] == "group"


def is_tone(node):
    return node[0] == "tone"


def name_of(node):
    return node[1]


def manner_of(node):
    return node[2]


def rule_of(tone):
    return tone[2]


def strength_of(node):
    return node[3]


def is_shown(node):
    return node[4]


def left_of(layer):
    return layer[5]


def top_of(layer):
    return layer[6]


def mask_of(layer):
    return layer[7]


def sheet_of(layer):
    return layer[8]


def inner_nodes(group):
    return group[5]


def with_inner_nodes(group, nodes):
    return group[:5] + (nodes,)


def plain_layer(name, manner, sheet):
    return ("layer", name, manner, ONE, True, 0, 0, None, sheet)
