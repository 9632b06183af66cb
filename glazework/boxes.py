"""Boxes: tuples (left, top, wide, high) of places of a picture; None stands for no place."""

from glazework.flats import flat_at
from glazework.nodes import inner_nodes, is_group, is_shown, is_tone, left_of, sheet_of, top_of
from glazework.sheets import places_of


def box_between(left, top, right, bottom):
    # Right and bottom are the first column and row behind the box.
    if right <= left or bottom <= top:
        return None
    return (left, top, right - left, bottom - top)


def joined_box(one, other):
    if one is None:
        return other
    if other is None:
        return one
    right = max(one[0] + one[2], other[0] + other[2])
    bottom = max(one[1] + one[3], other[1] + other[3])
    return box_between(min(one[0], other[0]), min(one[1], other[1]), right, bottom)


def joined_boxes(boxes):
    joined = None
    for box in boxes:
        joined = joined_box(joined, box)
    return joined


def whole_box(picture):
    return (0, 0, picture[0], picture[1])


def places_in(box):
    if box is None:
        return []
    return [(box[0] + x, box[1] + y) for x, y in places_of(box[2], box[3])]


def box_of_layer(picture, layer):
    left = left_of(layer)
    top = top_of(layer)
    sheet = sheet_of(layer)
    right = min(left + sheet[0], picture[0])
    bottom = min(top + sheet[1], picture[1])
    return box_between(max(left, 0), max(top, 0), right, bottom)


def box_of(picture, node):
    if not is_shown(node):
        return None
    if is_tone(node):
        return whole_box(picture)
    if is_group(node):
        # A tone changes nothing where the other nodes of its group leave the clear spot.
        return joined_boxes([box_of(picture, inner) for inner in inner_nodes(node) if not is_tone(inner)])
    return box_of_layer(picture, node)


def changed_box(one, other):
    places = places_in(whole_box(one))
    return joined_boxes([(x, y, 1, 1) for x, y in places if flat_at(one, x, y) != flat_at(other, x, y)])
