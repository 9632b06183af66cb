"""Pictures as texts: words with one blank between each two."""

from glazework.nodes import (
    inner_nodes, is_group, is_layer, is_shown, kind_of, left_of, manner_of, mask_of, name_of, sheet_of, strength_of,
    top_of,
)


def written_number(number):
    # Python's own str refuses numbers of some thousand figures, so a long one is written piece by piece.
    piece = 10 ** 60
    pieces = []
    while number >= piece:
        pieces.append(str(number % piece).zfill(60))
        number = number // piece
    pieces.append(str(number))
    return "".join(reversed(pieces))


def written_share(share):
    if share[1] == 1:
        return written_number(share[0])
    return written_number(share[0]) + "/" + written_number(share[1])


def written_spot(spot):
    return ":".join([written_share(part) for part in spot])


def written_mask(mask):
    if mask is None:
        return "."
    return ",".join([written_share(part) for part in mask])


def written_size(thing):
    # Of a sheet or a picture, both of which begin with their size.
    return written_number(thing[0]) + "x" + written_number(thing[1])


def words_of_sheet(sheet):
    return [written_size(sheet)] + [written_spot(spot) for spot in sheet[2]]


def words_of_layer_alone(layer):
    words = [written_number(left_of(layer)), written_number(top_of(layer)), written_mask(mask_of(layer))]
    return words + words_of_sheet(sheet_of(layer))


def words_of_node(node):
    # A tone's rule stands where the manner of the others does.
    words = [kind_of(node), name_of(node), manner_of(node), written_share(strength_of(node))]
    words.append("+" if is_shown(node) else "-")
    if is_layer(node):
        return words + words_of_layer_alone(node)
    if is_group(node):
        return words + ["["] + words_of_nodes(inner_nodes(node)) + ["]"]
    return words


def words_of_nodes(nodes):
    words = []
    for node in nodes:
        words.extend(words_of_node(node))
    return words


def written(picture):
    return " ".join([written_size(picture)] + words_of_nodes(picture[2]))
