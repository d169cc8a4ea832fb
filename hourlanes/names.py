"""Names and ways, and the refusals of those that are none, which plans and houses share."""

from hourlanes.errors import NoLane, NoName, NoWay, Taken
from hourlanes.jars import LARGEST

LETTERS = 8
LEGS = 4


def is_name(text):
    return 1 <= len(text) <= LETTERS and all(["a" <= letter <= "z" for letter in text])


def wrong_at(way, lanes):
    if len(way) == 0:
        return 0
    seen = []
    for place, (lane, wait) in enumerate(way):
        if place == LEGS or lane not in lanes or lane in seen or not 1 <= wait <= LARGEST:
            return place
        seen.append(lane)
    return None


def check_name(name, taken):
    if not is_name(name):
        raise NoName(name)
    if name in taken:
        raise Taken(name)


def check_width(width):
    if not 1 <= width <= LARGEST:
        raise NoLane("a lane has a width from 1 to 10 ** 9")


def check_way(way, lanes):
    place = wrong_at(way, lanes)
    if place is not None:
        raise NoWay(place)


def legs_of(way):
    """The way as a tuple of pairs, in whatever form it was handed in."""
    return tuple([(lane, wait) for lane, wait in way])
