"""What a picture shows, place by place, and what each node brings to it."""

from glazework.nodes import (
    inner_nodes, is_layer, is_shown, is_tone, left_of, manner_of, mask_of, rule_of, sheet_of, strength_of, top_of,
)
from glazework.sheets import has_place, number_of_place, places_of, spot_at
from glazework.spots import CLEAR, blended, toned, weighted


def masked_spot(layer, x, y):
    sheet = sheet_of(layer)
    mask = mask_of(layer)
    spot = spot_at(sheet, x, y)
    if mask is None or not has_place(sheet, x, y):
        return spot
    return weighted(spot, mask[number_of_place(sheet, x, y)])


def brought(node, x, y):
    # Of a layer or a group: what is blended above the nodes below it, already weighted.
    if is_layer(node):
        spot = masked_spot(node, x - left_of(node), y - top_of(node))
    else:
        spot = shown_by(inner_nodes(node), x, y)
    return weighted(spot, strength_of(node))


def shown_above(node, below, x, y):
    if not is_shown(node):
        return below
    if is_tone(node):
        return toned(rule_of(node), below, strength_of(node))
    return blended(manner_of(node), brought(node, x, y), below)


def shown_by(nodes, x, y):
    spot = CLEAR
    for node in nodes:
        spot = shown_above(node, spot, x, y)
    return spot


def brought_sheet(picture, node):
    spots = [brought(node, x, y) for x, y in places_of(picture[0], picture[1])]
    return (picture[0], picture[1], tuple(spots))


def flat_at(picture, x, y):
    return shown_by(picture[2], x, y)


def flat(picture):
    spots = [flat_at(picture, x, y) for x, y in places_of(picture[0], picture[1])]
    return (picture[0], picture[1], tuple(spots))
