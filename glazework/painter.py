"""A painter, who keeps what a picture shows and paints no more of it anew than need be."""

from glazework.boxes import box_of, joined_box, places_in, whole_box
from glazework.flats import flat_at
from glazework.nodes import name_of
from glazework.pictures import node_named, with_node
from glazework.sheets import number_of_place, plain_sheet
from glazework.spots import CLEAR


class Painter:
    def __init__(self, picture):
        self.picture = picture
        self.sheet = plain_sheet(picture[0], picture[1], CLEAR)
        self.paint_count = 0
        self.paint(whole_box(picture))

    def paint(self, box):
        spots = list(self.sheet[2])
        for x, y in places_in(box):
            spots[number_of_place(self.sheet, x, y)] = flat_at(self.picture, x, y)
            self.paint_count = self.paint_count + 1
        self.sheet = (self.sheet[0], self.sheet[1], tuple(spots))

    def give(self, node):
        name = name_of(node)
        old = node_named(self.picture, name)
        box = joined_box(box_of(self.picture, old), box_of(self.picture, node))
        self.picture = with_node(self.picture, name, node)
        self.paint(box)

    def shown(self):
        return self.sheet

    def now(self):
        return self.picture

    def painted(self):
        return self.paint_count
