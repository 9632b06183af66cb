"""A journal, which keeps the deeds done upon a picture and takes back any of them that no later one holds."""

from glazework.deeds import contrary, done, exchanged
from glazework.errors import Held, NoDeed


def exchanges(deeds, number):
    # A tuple, as exchanged tells it, for each deed behind this one, up to the first that holds it.
    told = []
    deed = deeds[number]
    for other in deeds[number + 1:]:
        both = exchanged(deed, other)
        if both is None:
            break
        told.append(both)
        deed = both[1]
    return told


class Journal:
    def __init__(self, picture):
        self.first_picture = picture
        self.picture = picture
        self.kept = []

    def do(self, deed):
        self.picture = done(self.picture, deed)
        self.kept.append(deed)

    def now(self):
        return self.picture

    def beginning(self):
        return self.first_picture

    def deeds(self):
        return list(self.kept)

    def held_by(self, number):
        if not 0 <= number < len(self.kept):
            # The number itself is not in the words: Python refuses to write one of some thousand figures.
            raise NoDeed("no deed has the number")
        holder = number + 1 + len(exchanges(self.kept, number))
        return holder if holder < len(self.kept) else None

    def take_back(self, number):
        if self.held_by(number) is not None:
            raise Held("a later deed holds this one")
        told = exchanges(self.kept, number)
        deed = told[-1][1] if told else self.kept[number]
        self.picture = done(self.picture, contrary(deed))
        self.kept = self.kept[:number] + [both[0] for both in told]
        return deed
