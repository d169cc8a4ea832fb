"""Whether there is a stretch in which more must be carried than the lane can.

Nothing here walks through a stretch tick by tick: from one end to the next, need less holds grows evenly but at
a few ends, so it is enough to look at these.
"""

from hourlanes.scenes import door_start


def over(scene):
    for first in begins(scene):
        end = over_end(scene, first)
        if end is not None:
            return (first, end)
    return None


def begins(scene):
    """Ticks with one of which a stretch that is over begins, if there is any."""
    comes = [come for come, hour, many in scene.known_rows()]
    full = [scene.now + after + filling(flow) for flow, after, wait in scene.ask_rows()]
    far = max([scene.now, scene.opens] + comes + full)
    # A stretch that begins in a shut tick may as well begin now: it holds no more. Any other may be moved on until
    # it begins with the come of something known that it counts, or else until far: it holds as much, and as flows
    # only fill while nothing comes, it needs no less.
    return sorted(set([scene.now, far] + comes))


def filling(flow):
    """The ticks till the flow is full, if nothing comes."""
    return (flow.jar.size - flow.marks + flow.jar.rate - 1) // flow.jar.rate


def over_end(scene, first):
    """An end at which a stretch that begins so is over, or None."""
    rows = climbs(scene, first)
    for end, excess, slope in rows:
        if excess > 0:
            return end
    last, excess, slope = rows[-1]
    if slope > 0:
        return last + (-excess) // slope + 1
    return None


def climbs(scene, first):
    """Rows (end, excess, slope): need less holds at each end where its growth changes, and how it grows behind it."""
    rows = []
    excess = 0
    slope = 0
    last = first
    for end, pieces, turn in sorted(changes(scene, first)):
        excess += slope * (end - last) + pieces
        slope += turn
        last = end
        rows.append((end, excess, slope))
    return rows


def changes(scene, first):
    """Rows (end, pieces, turn): at this end so much more is needed at once, and behind it so much more each tick."""
    rows = [(max(first, scene.opens), 0, -scene.width)]
    rows += [(hour, many, 0) for come, hour, many in scene.known_rows() if come >= first]
    for flow, after, wait in scene.ask_rows():
        lag = scene.now + after + wait - 1
        turns = turns_of(flow, door_start(scene.now, after, first))
        rows += [(tick + lag, 0, turn) for tick, turn in turns]
    return rows


def turns_of(flow, start):
    """Pairs (tick, turn): if from start on comes what may, from this tick on so much more does in each tick."""
    turns = []
    ahead = 0
    # In so many ticks what may come has surely come down to the rate, so the last row goes on for ever.
    for tick, ticks, many in flow.bursts(start, flow.jar.size + 2):
        turns.append((tick, many - ahead))
        ahead = many
    return turns
