"""Houses raised of plans, and plans of houses."""

from hourlanes.house import House
from hourlanes.jars import Jar
from hourlanes.plans import Plan


def raised(plan):
    house = House()
    for name, width in plan.lanes:
        house.build(name, width)
    for name, jar, way in plan.streams:
        house.let_in(name, jar, way)
    return house


def plan_now(house):
    lanes = [(name, width) for name, width, opens in house.lane_rows()]
    streams = [(name, Jar(*told), way) for name, told, marks, way in house.stream_rows()]
    return Plan(lanes, streams)
