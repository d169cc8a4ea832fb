"""Rooms: the most pieces that can ever stand at a lane behind a tick, and comings by which so many do."""

from hourlanes.futures import future
from hourlanes.judging import begins, climbs
from hourlanes.scenes import Scene


def room(scene):
    if sum([flow.jar.rate for flow, after, wait in scene.ask_rows()]) > scene.width:
        return None
    hasty = hasty_scene(scene)
    best = (0, scene.now, scene.now)
    # As the rates are not above the width, no more is left behind the last of the ends than at one of them.
    for first in begins(hasty):
        for end, left, slope in climbs(hasty, first):
            if left > best[0]:
                best = (left, first, end - 1)
    return best


def swell(scene, first, last):
    return future(hasty_scene(scene), first, last + 1)


def hasty_scene(scene):
    """The same lane, where all must be carried in the very tick in which it comes there.

    What stands behind a tick is what has come in the stretch that ends with it, from the last tick on ahead of
    which nothing stood, less what the lane carried: need less holds of that stretch here.
    """
    knowns = [(come, come + 1, many) for come, hour, many in scene.known_rows()]
    asks = [(flow, after, 1) for flow, after, wait in scene.ask_rows()]
    return Scene(scene.width, scene.now, knowns, asks, scene.opens)
