"""A folio, which keeps sheets by names, and goes back and forth over what was done with them."""

from glazework.errors import NoDeed, NoMerge, NoName
from glazework.sheets import are_of_one_size, blended_sheets


class Folio:
    def __init__(self):
        self.sheets = {}
        # Tuples (word, name, the sheet ahead of the step, the one behind it), None for no sheet, the next one last.
        self.steps_back = []
        self.steps_forth = []

    def set_sheet(self, name, sheet):
        # What is set so is no step: it can not be taken back.
        if sheet is None:
            self.sheets.pop(name)
        else:
            self.sheets[name] = sheet

    def take_step(self, word, name, sheet):
        self.steps_back.append((word, name, self.sheets.get(name), sheet))
        self.steps_forth = []
        self.set_sheet(name, sheet)

    def lay(self, name, sheet):
        was_there = name in self.sheets
        self.take_step("lay", name, sheet)
        return was_there

    def fetch(self, name):
        if name not in self.sheets:
            raise NoName(f"no sheet is by the name {name!r}")
        return self.sheets[name]

    def take_off(self, name):
        sheet = self.fetch(name)
        self.take_step("take", name, None)
        return sheet

    def blend(self, manner, above, below):
        upper = self.fetch(above)
        lower = self.fetch(below)
        if not are_of_one_size(upper, lower):
            raise NoMerge("the sheets are of unlike sizes")
        sheet = blended_sheets(manner, upper, lower)
        self.take_step("blend", below, sheet)
        return sheet

    def names(self):
        return sorted(self.sheets)

    def back(self):
        if len(self.steps_back) == 0:
            raise NoDeed("no step can be taken back")
        step = self.steps_back.pop()
        self.set_sheet(step[1], step[2])
        self.steps_forth.append(step)
        return step[0]

    def forth(self):
        if len(self.steps_forth) == 0:
            raise NoDeed("no step can be done again")
        step = self.steps_forth.pop()
        self.set_sheet(step[1], step[3])
        self.steps_back.append(step)
        return step[0]

    def counts(self):
        return (len(self.steps_back), len(self.steps_forth))

    def twin(self):
        other = Folio()
        other.sheets = dict(self.sheets)
        other.steps_back = list(self.steps_back)
        other.steps_forth = list(self.steps_forth)
        return other
