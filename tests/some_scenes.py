"""Scenes for the tests, drawn by chance of a seed, as numbers alone."""

from hourlanes.flows import Flow
from hourlanes.jars import Jar
from hourlanes.scenes import Scene


def some_jar(chance, size):
    numbers = sorted([chance.randrange(1, size + 1) for _ in range(3)])
    return (numbers[2], numbers[0], numbers[1])


def some_known(chance, now, ticks, many):
    come = now + chance.randrange(ticks)
    return (come, come + chance.randrange(1, ticks), chance.randrange(1, many))


def some_ask(chance, size, ticks):
    numbers = some_jar(chance, size)
    marks = chance.choice([0, numbers[0], chance.randrange(numbers[0] + 1)])
    return (numbers, marks, chance.randrange(ticks), chance.randrange(1, ticks))


def small(chance):
    """A tuple (width, now, knowns, asks, opens), asks being tuples (numbers, marks, after, wait)."""
    now = chance.choice([0, 2, 5])
    knowns = [some_known(chance, now, 8, 7) for _ in range(chance.randrange(4))]
    asks = [some_ask(chance, chance.choice([3, 8]), 7) for _ in range(chance.randrange(4))]
    rates = sum(ask[0][1] for ask in asks)
    width = max(1, rates + chance.choice([-1, 0, 0, 1, 2, 4]))
    return (width, now, knowns, asks, chance.choice([0, 0, now, now + chance.randrange(7)]))


def made(width, now, knowns, asks, opens):
    flows = [(Flow(Jar(*numbers), marks), after, wait) for numbers, marks, after, wait in asks]
    return Scene(width, now, knowns, flows, opens)
