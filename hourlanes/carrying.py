"""One lane: what it carries in a tick, and whether all lots can keep their hours on it."""

from hourlanes.errors import NoLot


def carried(width, heap):
    parts = [0] * len(heap)
    left = width
    for hour, place in sorted([(pair[0], place) for place, pair in enumerate(heap)]):
        parts[place] = min(left, heap[place][1])
        left -= parts[place]
    return parts


def ran(width, lots):
    check_lots(lots)
    left = {place: lot[2] for place, lot in enumerate(lots)}
    told = []
    tick = 0
    while left:
        # Ticks in which nothing is there are passed over, as there may be many of them.
        tick = max(tick, min([lots[place][0] for place in left]))
        rows = tick_rows(width, lots, left, tick)
        for hour, place, many in rows:
            told.append((tick, place, many))
            left[place] -= many
            if left[place] == 0:
                del left[place]
        tick += 1
    return told


def tight(width, lots):
    check_lots(lots)
    by_hour = sorted([(hour, come, many) for come, hour, many in lots])
    # The least stretch around some lots begins with a coming and ends with an hour of theirs.
    for first in [lot[0] for lot in lots]:
        pieces = 0
        for hour, come, many in by_hour:
            if come >= first:
                pieces += many
                if pieces > width * (hour - first):
                    return (first, hour)
    return None


def check_lots(lots):
    for place, (come, hour, many) in enumerate(lots):
        if come < 0 or hour <= come or many < 1:
            raise NoLot(place)


def tick_rows(width, lots, left, tick):
    """What is carried in this tick, as rows (hour, place, many) in the order in which it is told."""
    here = [place for place in left if lots[place][0] <= tick]
    parts = carried(width, [(lots[place][1], left[place]) for place in here])
    return sorted([(lots[place][1], place, many) for place, many in zip(here, parts) if many > 0])
