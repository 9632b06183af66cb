"""What the document tells, reckoned once more with Python's own fractions and none of the program's functions."""

from fractions import Fraction

from samples import CLEAR, MANNERS, ONE, RULES, fraction, fractions_of, share


def is_least_share(thing):
    """Told without the program's own is_share."""
    if type(thing) is not tuple or [type(part) for part in thing] != [int, int]:
        return False
    return thing[1] > 0 and 0 <= thing[0] <= thing[1] and share(fraction(thing)) == thing


def is_sound_spot(thing):
    """Told without the program's own is_spot."""
    if type(thing) is not tuple or len(thing) != 4 or not all(is_least_share(part) for part in thing):
        return False
    return all(fraction(colour) <= fraction(thing[0]) for colour in thing[1:])


def blended_by_document(manner, above, below):
    c = fraction(above[0])
    d = fraction(below[0])
    cover = {
        "over": c + d - c * d,
        "multiply": c + d - c * d,
        "screen": c + d - c * d,
        "plus": min(Fraction(1), c + d),
        "atop": d,
        "cut": d * (1 - c),
    }[manner]
    colours = []
    for x, y in zip(fractions_of(above)[1:], fractions_of(below)[1:]):
        colours.append({
            "over": x + y * (1 - c),
            "multiply": x * y + x * (1 - d) + y * (1 - c),
            "screen": x + y - x * y,
            "plus": min(Fraction(1), x + y),
            "atop": x * d + y * (1 - c),
            "cut": y * (1 - c),
        }[manner])
    return tuple(share(part) for part in [cover] + colours)


def toned_by_document(rule, spot, strength):
    cover, red, green, blue = fractions_of(spot)
    mean = (red + green + blue) / 3
    by_rule = {
        "turn": (cover, cover - red, cover - green, cover - blue),
        "grey": (cover, mean, mean, mean),
        "round": (cover, green, blue, red),
    }[rule]
    weight = fraction(strength)
    return tuple(share(weight * new + (1 - weight) * old) for new, old in zip(by_rule, fractions_of(spot)))


def is_number(thing, least, greatest):
    return type(thing) is int and least <= thing <= greatest


def is_sound_sheet(thing):
    if type(thing) is not tuple or len(thing) != 3:
        return False
    wide, high, spots = thing
    if not is_number(wide, 1, 8) or not is_number(high, 1, 8) or type(spots) is not tuple:
        return False
    return len(spots) == wide * high and all(is_sound_spot(spot) for spot in spots)


def is_sound_picture(thing):
    """Asked of what the program told, so of tuples alone; a node is asked for as the one node of a picture."""
    wide, high, nodes = thing
    names = []
    sound = is_number(wide, 1, 8) and is_number(high, 1, 8) and are_sound_nodes(nodes, 3, names)
    return sound and len(set(names)) == len(names)


def are_sound_nodes(nodes, deepest, names):
    return type(nodes) is tuple and deepest >= 0 and all(is_sound_node(node, deepest, names) for node in nodes)


def is_sound_node(node, deepest, names):
    word, name, manner, strength, shown = node[:5]
    names.append(name)
    if type(name) is not str or not 1 <= len(name) <= 6 or not (name.isascii() and name.isalpha() and name.islower()):
        return False
    if not is_least_share(strength) or type(shown) is not bool:
        return False
    if word == "tone":
        return len(node) == 5 and manner in RULES
    if word == "group":
        return len(node) == 6 and manner in MANNERS and are_sound_nodes(node[5], deepest - 1, names)
    left, top, mask, sheet = node[5:]
    if word != "layer" or manner not in MANNERS or not is_number(left, -9, 9) or not is_number(top, -9, 9):
        return False
    if not is_sound_sheet(sheet):
        return False
    return mask is None or (len(mask) == len(sheet[2]) and all(is_least_share(part) for part in mask))


def weighted_by_document(spot, *weights):
    parts = fractions_of(spot)
    for weight in weights:
        parts = [part * fraction(weight) for part in parts]
    return tuple(share(part) for part in parts)


def brought_by_document(node, x, y):
    """What a layer or a group brings to a place, weighted."""
    if node[0] == "group":
        return weighted_by_document(shown_by_document(node[5], x, y), node[3])
    left, top, mask, (wide, high, spots) = node[5:]
    rows = [spots[row * wide:row * wide + wide] for row in range(high)]
    for row in range(high):
        for column in range(wide):
            if (column + left, row + top) == (x, y):
                weight = ONE if mask is None else mask[row * wide + column]
                return weighted_by_document(rows[row][column], weight, node[3])
    return CLEAR


def shown_by_document(nodes, x, y):
    spot = CLEAR
    for node in nodes:
        if not node[4]:
            continue
        if node[0] == "tone":
            spot = toned_by_document(node[2], spot, node[3])
        else:
            spot = blended_by_document(node[2], brought_by_document(node, x, y), spot)
    return spot


def places_by_document(picture):
    wide, high, nodes = picture
    return [(x, y) for y in range(high) for x in range(wide)]


def flat_by_document(picture):
    spots = tuple(shown_by_document(picture[2], x, y) for x, y in places_by_document(picture))
    return (picture[0], picture[1], spots)


def all_brought(picture, node):
    return [brought_by_document(node, x, y) for x, y in places_by_document(picture)]


def covers_by_document(picture, node):
    if node[0] == "tone" or not node[4] or node[2] != "over":
        return False
    return all(spot[0] == ONE for spot in all_brought(picture, node))


def needless_by_document(picture, nodes):
    names = []
    for number, node in enumerate(nodes):
        grounds = [
            not node[4],
            node[3] == (0, 1),
            node[0] != "tone" and all(spot == CLEAR for spot in all_brought(picture, node)),
            any(covers_by_document(picture, above) for above in nodes[number + 1:]),
        ]
        if any(grounds):
            names.append(node[1])
        elif node[0] == "group":
            names.extend(needless_by_document(picture, node[5]))
    return names


def box_round(places):
    """The least box that holds all of some places."""
    if not places:
        return None
    columns = [x for x, y in places]
    rows = [y for x, y in places]
    return (min(columns), min(rows), max(columns) - min(columns) + 1, max(rows) - min(rows) + 1)


def places_of_box(box):
    if box is None:
        return []
    left, top, wide, high = box
    return [(x, y) for y in range(top, top + high) for x in range(left, left + wide)]


def box_by_document(picture, node):
    everywhere = places_by_document(picture)
    if not node[4]:
        return None
    if node[0] == "tone":
        return box_round(everywhere)
    if node[0] == "layer":
        left, top, mask, (wide, high, spots) = node[5:]
        return box_round([(x, y) for x, y in everywhere if 0 <= x - left < wide and 0 <= y - top < high])
    boxes = [box_by_document(picture, inner) for inner in node[5] if inner[0] != "tone"]
    return box_round([place for box in boxes for place in places_of_box(box)])


def names_within(node):
    inner = node[5] if node[0] == "group" else ()
    return [node[1]] + [name for part in inner for name in names_within(part)]


def changed_by_document(node, deed):
    """The node with new where it has old, None where it has something else or has not this."""
    parts = list(node)
    old, new = deed[-2:]
    places = {"strength": [3], "shown": [4], "manner": [2], "place": [5, 6]}
    kinds = {"manner": ("layer", "group"), "place": ("layer",), "spot": ("layer",)}
    if node[0] not in kinds.get(deed[0], ("layer", "group", "tone")):
        return None
    if deed[0] == "spot":
        wide, high, spots = node[8]
        rows = [list(spots[row * wide:row * wide + wide]) for row in range(high)]
        x, y = deed[2:4]
        if x >= wide or y >= high or rows[y][x] != old:
            return None
        rows[y][x] = new
        return node[:8] + ((wide, high, tuple(spot for row in rows for spot in row)),)
    if deed[0] != "place":
        old, new = (old,), (new,)
    if tuple(parts[place] for place in places[deed[0]]) != old:
        return None
    for place, value in zip(places[deed[0]], new):
        parts[place] = value
    return tuple(parts)


def moved_by_document(nodes, deed):
    """The nodes with one put among them, or without one, None where the deed does not fit."""
    word, parent, number, node = deed
    nodes = list(nodes)
    if word == "put":
        if number > len(nodes):
            return None
        nodes.insert(number, node)
        return tuple(nodes)
    if number >= len(nodes) or nodes[number] != node:
        return None
    nodes.pop(number)
    return tuple(nodes)


def node_by_document(node, deed):
    """The node once the deed was done upon it or within it, None where it does not fit."""
    if deed[1] == node[1]:
        if deed[0] not in ("put", "out"):
            return changed_by_document(node, deed)
        if node[0] != "group":
            return None
        nodes = moved_by_document(node[5], deed)
        return None if nodes is None else node[:5] + (nodes,)
    if node[0] != "group":
        return node
    nodes = [node_by_document(inner, deed) for inner in node[5]]
    return None if None in nodes else node[:5] + (tuple(nodes),)


def done_by_document(picture, deed):
    """The picture once the deed was done, None where it does not fit."""
    wide, high, nodes = picture
    names = [name for node in nodes for name in names_within(node)]
    if deed[1] == "":
        nodes = moved_by_document(nodes, deed)
    elif deed[1] not in names:
        return None
    else:
        nodes = [node_by_document(node, deed) for node in nodes]
    if nodes is None or None in nodes:
        return None
    told = (wide, high, tuple(nodes))
    return told if is_sound_picture(told) else None


def exchanged_by_document(one, other):
    """Ground by ground, in the document's order; then the numbers, by where the nodes stand."""
    moves = [deed[0] in ("put", "out") for deed in (one, other)]
    if moves == [False, False]:
        return None if one[:-2] == other[:-2] else (other, one)
    for deed, second in ((one, other), (other, one)):
        if deed[0] in ("put", "out") and second[1] in names_within(deed[3]):
            return None
    if moves != [True, True]:
        return (other, one)
    if set(names_within(one[3])) & set(names_within(other[3])):
        return None
    if one[1] != other[1]:
        return (other, one)
    first, second = one[2], other[2]
    if (one[0], other[0]) == ("put", "out") and first - second in (-1, 0, 1):
        return None
    if (one[0], other[0]) == ("out", "put") and first == second:
        return None
    steps = {"put": 1, "out": -1}
    if second < first or (second == first and other[0] == "put"):
        first += steps[other[0]]
    else:
        second -= steps[one[0]]
    return (other[:2] + (second,) + other[3:], one[:2] + (first,) + one[3:])


def share_by_document(share):
    return {(0, 1): "0", (1, 1): "1"}.get(share, "{}/{}".format(*share))


def sheet_by_document(sheet):
    wide, high, spots = sheet
    return ["{}x{}".format(wide, high)] + [":".join(map(share_by_document, spot)) for spot in spots]


def node_words_by_document(node):
    words = [node[0], node[1], node[2], share_by_document(node[3]), {True: "+", False: "-"}[node[4]]]
    if node[0] == "layer":
        mask = "." if node[7] is None else ",".join(map(share_by_document, node[7]))
        words += [str(node[5]), str(node[6]), mask] + sheet_by_document(node[8])
    if node[0] == "group":
        words += ["["] + [word for inner in node[5] for word in node_words_by_document(inner)] + ["]"]
    return words


def written_by_document(picture):
    wide, high, nodes = picture
    words = ["{}x{}".format(wide, high)] + [word for node in nodes for word in node_words_by_document(node)]
    return " ".join(words)
