"""The refusals: each has a class of its own, and all stand under LaneError."""


class LaneError(ValueError):
    """Any refusal."""


class NoJar(LaneError):
    """No jar has these numbers, or no flow of a jar these marks."""


class NoTick(LaneError):
    """A tick, or a number of ticks, that there can't be."""


class NoLane(LaneError):
    """No lane has this width."""


class NoName(LaneError):
    """This text is no name."""

    def __init__(self, name):
        self.name = name


class Taken(LaneError):
    """Another one has this name already."""

    def __init__(self, name):
        self.name = name


class Unknown(LaneError):
    """There is nothing of this name."""

    def __init__(self, name):
        self.name = name


class NoWay(LaneError):
    """A way that is wrong at this place."""

    def __init__(self, place):
        self.place = place


class NoLot(LaneError):
    """The lot at this place is none."""

    def __init__(self, place):
        self.place = place


class TooMany(LaneError):
    """Of this stream at most bound pieces may come."""

    def __init__(self, name, bound):
        self.name = name
        self.bound = bound


class TooMuch(LaneError):
    """By these rows more must be carried on the lane, from first to end - 1, than it can."""

    def __init__(self, lane, first, end, rows):
        self.lane = lane
        self.first = first
        self.end = end
        # A list of its own, so that the one handed in may be changed later.
        self.rows = list(rows)


class NoText(LaneError):
    """The row of this number can't be read."""

    def __init__(self, row):
        self.row = row


class NoBook(LaneError):
    """The row of this number is wrong in a book."""

    def __init__(self, row):
        self.row = row
