"""Limits: the least and the greatest that a house would not refuse."""

from hourlanes.errors import NoJar
from hourlanes.flows import Flow
from hourlanes.jars import LARGEST, Jar
from hourlanes.judging import over
from hourlanes.lots import hours_of
from hourlanes.names import check_way


def least(low, high, good):
    if low > high or not good(high):
        return None
    while low < high:
        middle = (low + high) // 2
        if good(middle):
            high = middle
        else:
            low = middle + 1
    return low


def greatest(low, high, good):
    if low > high or not good(low):
        return None
    while low < high:
        middle = (low + high + 1) // 2
        if good(middle):
            low = middle
        else:
            high = middle - 1
    return low


def least_wait(house, lane, jar, after=0):
    scene = house.scene(lane)
    return least(1, LARGEST, lambda wait: takes(scene, jar, after, wait))


def quickest(house, jar, lanes):
    check_way([(lane, 1) for lane in lanes], lane_names(house))
    way = []
    after = 0
    for lane in lanes:
        wait = least_wait(house, lane, jar, after)
        if wait is None:
            return None
        way.append((lane, wait))
        after += wait
    return way


def greatest_size(house, rate, mouth, way):
    if not 1 <= rate <= mouth <= LARGEST:
        raise NoJar("a jar has 1 <= rate <= mouth <= 10 ** 9")
    check_way(way, lane_names(house))
    scenes = [house.scene(lane) for lane, wait in way]
    hours = hours_of(0, way)
    waits = [wait for lane, wait in way]

    def good(size):
        jar = Jar(size, rate, mouth)
        return all([takes(scene, jar, after, wait) for scene, after, wait in zip(scenes, hours, waits)])

    return greatest(mouth, LARGEST, good)


def least_width(house, lane):
    scene = house.scene(lane)
    return least(1, LARGEST, lambda width: over(scene.with_width(width)) is None)


def longest_shut(house, lane):
    scene = house.scene(lane)
    # A lane that is shut already stays so for at least as long as it would.
    return greatest(0, LARGEST, lambda ticks: over(scene.with_opens(max(scene.opens, scene.now + ticks))) is None)


def takes(scene, jar, after, wait):
    """Whether nothing is over with one more stream, whose flow is full."""
    return over(scene.with_ask(Flow(jar), after, wait)) is None


def lane_names(house):
    return [name for name, width, opens in house.lane_rows()]
