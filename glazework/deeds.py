"""Deeds: tuples that tell one change of a picture each. They are done, turned round, and put in another order.

A put or an out changes which nodes there are; each other deed changes one
value of one node, and ends with the old value and the new one.
"""

from glazework.errors import NotSo
from glazework.nodes import (
    inner_nodes, is_group, is_layer, is_shown, is_tone, manner_of, place_of, sheet_of, strength_of, with_inner_nodes,
    with_manner, with_place, with_sheet, with_shown, with_strength,
)
from glazework.pictures import (
    is_name, is_node, is_offset, is_picture, is_truth, names_among, names_in, node_named, with_node,
)
from glazework.shares import is_share, is_whole
from glazework.sheets import has_place, spot_at, with_spot
from glazework.spots import MANNERS, is_spot


def is_number(thing):
    return is_whole(thing) and thing >= 0


def is_place(thing):
    return isinstance(thing, tuple) and len(thing) == 2 and is_offset(thing[0]) and is_offset(thing[1])


def is_value(word, thing):
    if word == "strength":
        return is_share(thing)
    if word == "shown":
        return is_truth(thing)
    if word == "manner":
        return thing in MANNERS
    return is_place(thing)


def has_spot_form(thing):
    if len(thing) != 6 or not is_name(thing[1]) or not is_number(thing[2]) or not is_number(thing[3]):
        return False
    return is_spot(thing[4]) and is_spot(thing[5])


def has_value_form(thing):
    return len(thing) == 4 and is_name(thing[1]) and is_value(thing[0], thing[2]) and is_value(thing[0], thing[3])


def has_put_form(thing):
    if len(thing) != 4 or not is_number(thing[2]) or not is_node(thing[3]):
        return False
    return thing[1] == "" or is_name(thing[1])


def is_deed(thing):
    if not isinstance(thing, tuple) or len(thing) == 0:
        return False
    if thing[0] in ("put", "out"):
        return has_put_form(thing)
    if thing[0] == "spot":
        return has_spot_form(thing)
    return thing[0] in ("strength", "shown", "manner", "place") and has_value_form(thing)


def word_of(deed):
    return deed[0]


def target_of(deed):
    # The name of the node that is changed, or of the parent, whose nodes are.
    return deed[1]


def number_of(deed):
    return deed[2]


def node_of(deed):
    return deed[3]


def x_of(deed):
    return deed[2]


def y_of(deed):
    return deed[3]


def old_of(deed):
    return deed[-2]


def new_of(deed):
    return deed[-1]


def is_put(deed):
    return word_of(deed) == "put"


def is_out(deed):
    return word_of(deed) == "out"


def is_put_or_out(deed):
    return is_put(deed) or is_out(deed)


def with_number(deed, number):
    return (word_of(deed), target_of(deed), number, node_of(deed))


def node_to_change(picture, name):
    if name not in names_in(picture):
        raise NotSo(f"no node has the name {name!r}")
    return node_named(picture, name)


def has_value(node, deed):
    word = word_of(deed)
    if word == "manner":
        return not is_tone(node)
    if word == "place":
        return is_layer(node)
    if word == "spot":
        return is_layer(node) and has_place(sheet_of(node), x_of(deed), y_of(deed))
    return True


def value_in(node, deed):
    word = word_of(deed)
    if word == "strength":
        return strength_of(node)
    if word == "shown":
        return is_shown(node)
    if word == "manner":
        return manner_of(node)
    if word == "place":
        return place_of(node)
    return spot_at(sheet_of(node), x_of(deed), y_of(deed))


def with_new_value(node, deed):
    word = word_of(deed)
    new = new_of(deed)
    if word == "strength":
        return with_strength(node, new)
    if word == "shown":
        return with_shown(node, new)
    if word == "manner":
        return with_manner(node, new)
    if word == "place":
        return with_place(node, new)
    return with_sheet(node, with_spot(sheet_of(node), x_of(deed), y_of(deed), new))


def with_value_changed(picture, deed):
    name = target_of(deed)
    node = node_to_change(picture, name)
    if not has_value(node, deed):
        raise NotSo(f"{name!r} has not what the deed changes")
    if value_in(node, deed) != old_of(deed):
        raise NotSo(f"{name!r} has something else than what the deed tells as old")
    return with_node(picture, name, with_new_value(node, deed))


def nodes_of_parent(picture, parent):
    if parent == "":
        return picture[2]
    node = node_to_change(picture, parent)
    if not is_group(node):
        raise NotSo(f"{parent!r} is no group")
    return inner_nodes(node)


def with_nodes_of_parent(picture, parent, nodes):
    if parent == "":
        return (picture[0], picture[1], nodes)
    return with_node(picture, parent, with_inner_nodes(node_named(picture, parent), nodes))


def with_node_put(picture, deed):
    parent = target_of(deed)
    number = number_of(deed)
    nodes = nodes_of_parent(picture, parent)
    if number > len(nodes):
        raise NotSo("the number is greater than there are nodes")
    told = with_nodes_of_parent(picture, parent, nodes[:number] + (node_of(deed),) + nodes[number:])
    # A name that would be there twice makes it no picture either.
    if not is_picture(told):
        raise NotSo("with the node put there it is no picture")
    return told


def with_node_out(picture, deed):
    parent = target_of(deed)
    number = number_of(deed)
    nodes = nodes_of_parent(picture, parent)
    if nodes[number:number + 1] != (node_of(deed),):
        raise NotSo("the node does not stand at the number")
    return with_nodes_of_parent(picture, parent, nodes[:number] + nodes[number + 1:])


def done(picture, deed):
    if is_put(deed):
        return with_node_put(picture, deed)
    if is_out(deed):
        return with_node_out(picture, deed)
    return with_value_changed(picture, deed)


def contrary(deed):
    if is_put(deed):
        return ("out",) + deed[1:]
    if is_out(deed):
        return ("put",) + deed[1:]
    return deed[:-2] + (new_of(deed), old_of(deed))


def names_carried(deed):
    return names_among((node_of(deed),)) if is_put_or_out(deed) else []


def names_touched(deed):
    return [target_of(deed)] + names_carried(deed)


def some_carried_name_is_touched(one, other):
    touched = names_touched(other)
    return any([name in touched for name in names_carried(one)])


def numbers_hold(one, other):
    # Done ahead of a put, the out of either neighbour would have its number, and none could tell which one it was.
    if word_of(one) == word_of(other):
        return False
    apart = abs(number_of(one) - number_of(other))
    return apart == 0 or (apart == 1 and is_put(one))


def have_one_parent(one, other):
    return is_put_or_out(one) and is_put_or_out(other) and target_of(one) == target_of(other)


def holds(one, other):
    if some_carried_name_is_touched(one, other) or some_carried_name_is_touched(other, one):
        return True
    if have_one_parent(one, other):
        return numbers_hold(one, other)
    # All ahead of old and new tells what is changed; of a put or out it tells the parent, which is another one here.
    return one[:-2] == other[:-2]


def exchanged_of_one_parent(one, other):
    number = number_of(one)
    other_number = number_of(other)
    if is_put(other) and other_number <= number:
        return (other, with_number(one, number + 1))
    if is_out(other) and other_number < number:
        return (other, with_number(one, number - 1))
    return (with_number(other, other_number - 1 if is_put(one) else other_number + 1), one)


def exchanged(one, other):
    if holds(one, other):
        return None
    if have_one_parent(one, other):
        return exchanged_of_one_parent(one, other)
    return (other, one)
