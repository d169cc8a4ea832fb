"""Lots: the pieces of one stream that come in one tick, and their hours."""


class Lot:
    """A lot on its way, with what each of its lanes has not carried yet."""

    def __init__(self, name, came, many, way):
        self.name = name
        self.came = came
        self.many = many
        self.hours = hours_of(came, way)
        self.stops = stops_of(came, way)
        self.left = {lane: many for lane, wait in way}

    def is_at(self, lane, tick):
        """Whether it has come to the lane in this tick or ahead of it, and something is not carried there."""
        return lane in self.stops and self.stops[lane][0] <= tick and self.left[lane] > 0


def hours_of(came, way):
    hours = [came]
    for lane, wait in way:
        hours.append(hours[-1] + wait)
    return tuple(hours)


def stops_of(came, way):
    """For each lane of the way a pair: the coming there, and the next hour."""
    hours = hours_of(came, way)
    return {lane: (hours[place], hours[place + 1]) for place, (lane, wait) in enumerate(way)}
