"""What a sheet has: its kinds of spots, their mean, and where it is unlike another one or not clear."""

from glazework.boxes import joined_boxes
from glazework.errors import NoMerge
from glazework.shares import added, divided
from glazework.sheets import are_of_one_size, places_of, spot_at
from glazework.spots import CLEAR


def kinds_in(sheet):
    places_by_spot = {}
    for spot in sheet[2]:
        places_by_spot[spot] = places_by_spot.get(spot, 0) + 1
    return sorted(places_by_spot.items())


def unlike_places(one, other):
    if not are_of_one_size(one, other):
        raise NoMerge("the sheets are of unlike sizes")
    places = places_of(one[0], one[1])
    # Places come row by row, but their own order is by x first.
    return sorted([(x, y) for x, y in places if spot_at(one, x, y) != spot_at(other, x, y)])


def mean_of(shares):
    total = (0, 1)
    for share in shares:
        total = added(total, share)
    return divided(total, (len(shares), 1))


def mean_part(sheet, part):
    return mean_of([spot[part] for spot in sheet[2]])


def mean_spot(sheet):
    return tuple([mean_part(sheet, part) for part in range(4)])


def seen_box(sheet):
    places = places_of(sheet[0], sheet[1])
    return joined_boxes([(x, y, 1, 1) for x, y in places if spot_at(sheet, x, y) != CLEAR])
