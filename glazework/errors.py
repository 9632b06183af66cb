"""The refusals: one class for each, all of them below GlazeError, none below another."""


class GlazeError(ValueError):
    pass


class NoName(GlazeError):
    pass


class NoMerge(GlazeError):
    pass


class NoOpen(GlazeError):
    pass


class NoSwap(GlazeError):
    pass


class NotSo(GlazeError):
    pass


class NoDeed(GlazeError):
    pass


class Held(GlazeError):
    pass


class NoText(GlazeError):
    pass
