"""Scenes: what must be carried on a lane in a stretch of ticks, and what it can carry then."""

from hourlanes.flows import Flow


class Scene:
    """A lane ahead of tick now, with what is known to come there and the streams that may come; it never changes."""

    def __init__(self, width, now, knowns, asks, opens=0):
        self.width = width
        self.now = now
        self.opens = opens
        self.knowns = [(come, hour, many) for come, hour, many in knowns]
        self.asks = copied(asks)

    def need(self, first, end):
        pieces = known_pieces(self.knowns, first, end)
        for flow, after, wait in self.asks:
            start, ticks = door_window(self.now, after, wait, first, end)
            pieces += flow.most(start, ticks)
        return pieces

    def holds(self, first, end):
        return self.width * max(0, end - max(first, self.opens))

    def known_rows(self):
        return list(self.knowns)

    def ask_rows(self):
        return copied(self.asks)

    def with_ask(self, flow, after, wait):
        return Scene(self.width, self.now, self.knowns, [*self.asks, (flow, after, wait)], self.opens)

    def with_width(self, width):
        return Scene(width, self.now, self.knowns, self.asks, self.opens)

    def with_opens(self, opens):
        return Scene(self.width, self.now, self.knowns, self.asks, opens)


def copied(asks):
    """The asks with flows of their own, as a flow that is handed in or told goes on elsewhere."""
    return [(Flow(flow.jar, flow.marks), after, wait) for flow, after, wait in asks]


def known_pieces(knowns, first, end):
    return sum([many for come, hour, many in knowns if come >= first and hour <= end])


def door_start(now, after, first):
    """How many ticks, from now on, the door is ahead of what comes to the lane in tick first or later."""
    return max(0, first - after - now)


def door_window(now, after, wait, first, end):
    """The window at the door, as a flow's most is asked for it, of what a stretch must carry of an ask."""
    start = door_start(now, after, first)
    return (start, end - wait - after - now - start + 1)
