"""How many pieces stand at a lane behind each tick, by walks tick by tick, with no code of the program in it.

Scenes are tuples (width, now, knowns, asks, opens), asks being tuples (numbers, marks, after, wait).
"""

import itertools

from tests.walks import behind, may


def stood(numbers, comings, ticks):
    """What stands behind each tick from now on, if comings (a list for each ask) come at the doors, then nothing."""
    width, now, knowns, asks, opens = numbers
    backlog, told = 0, []
    for tick in range(now, now + ticks):
        backlog += sum(many for come, hour, many in knowns if come == tick)
        for (jar, marks, after, wait), comes in zip(asks, comings):
            door = tick - after - now
            backlog += comes[door] if 0 <= door < len(comes) else 0
        if tick >= opens:
            backlog = max(0, backlog - width)
        told.append(backlog)
    return told


def comings_of(numbers, rows, ticks):
    """Rows (place, tick, ticks, many) as what comes tick by tick, a list for each ask; each must be able to come."""
    now, asks = numbers[1], numbers[3]
    comings = [[0] * ticks for _ in asks]
    for place, first, long, many in rows:
        for tick in range(first - now, min(ticks, first - now + long)):
            comings[place][tick] += many
    for (jar, marks, after, wait), comes in zip(asks, comings):
        assert can_come(jar, marks, comes)
    return comings


def can_come(jar, marks, comes):
    for many in comes:
        marks = behind(jar, marks, many)
        if marks is None:
            return False
    return True


def drawn_comings(chance, numbers, ticks):
    """Comings by chance: in some of the ticks nothing, in others all that may, or less."""
    told = []
    for jar, marks, after, wait in numbers[3]:
        quiet, comes = chance.randrange(ticks), []
        for tick in range(ticks):
            most = may(jar, marks)
            many = chance.choice([0, most, chance.randrange(most + 1)]) if tick < quiet else most
            marks = behind(jar, marks, many)
            comes.append(many)
        told.append(comes)
    return told


def most_stood(numbers, ticks):
    """The most that stand behind one of so many ticks, over all that can come: every coming is tried."""
    width, now, knowns, asks, opens = numbers
    longest = max([after for jar, marks, after, wait in asks], default=0)
    # A state: the marks of each ask, what is on its way to the lane for each tick to come, and what stands.
    found = {(tuple(ask[1] for ask in asks), (0,) * (longest + 1), 0)}
    best = 0
    for tick in range(now, now + ticks):
        known = sum(many for come, hour, many in knowns if come == tick)
        reached = set()
        for marks, coming, backlog in found:
            choices = [range(may(ask[0], held) + 1) for ask, held in zip(asks, marks)]
            for comes in itertools.product(*choices):
                line = list(coming)
                for (jar, start, after, wait), many in zip(asks, comes):
                    line[after] += many
                left = backlog + known + line[0]
                left = max(0, left - width) if tick >= opens else left
                best = max(best, left)
                after_marks = tuple(behind(ask[0], held, many) for ask, held, many in zip(asks, marks, comes))
                reached.add((after_marks, (*line[1:], 0), left))
        found = reached
    return best
