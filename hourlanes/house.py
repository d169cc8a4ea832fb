"""Houses: streams let in and let go on shared lanes, so that all pieces keep their hours, and the book of it."""

from hourlanes.carrying import carried
from hourlanes.errors import TooMuch
from hourlanes.futures import future
from hourlanes.grounds import Ground
from hourlanes.judging import over
from hourlanes.names import legs_of


class House:
    """A ground on which no deed is done by which some piece could miss its hour."""

    def __init__(self):
        self.now = 0
        self.ground = Ground()
        self.deeds = []

    def build(self, name, width):
        self.ground.build(name, width)
        self.deeds.append(("build", name, width))

    def let_in(self, name, jar, way):
        tried = self.ground.twin()
        tried.let_in(name, jar, way)
        self.settle(tried, [leg[0] for leg in way], ("in", name, jar.told(), legs_of(way)))

    def turn(self, name, jar, way):
        tried = self.ground.twin()
        tried.turn(name, jar, way)
        # The lanes of the old way need no look: less can come there than before.
        self.settle(tried, [leg[0] for leg in way], ("turn", name, jar.told(), legs_of(way)))

    def let_go(self, name):
        many = self.ground.let_go(name)
        self.deeds.append(("go", name, many))
        return many

    def widen(self, lane, width):
        tried = self.ground.twin()
        tried.widen(lane, width)
        self.settle(tried, [lane], ("widen", lane, width))

    def shut(self, lane, ticks):
        tried = self.ground.twin()
        tried.shut(lane, ticks)
        self.settle(tried, [lane], ("shut", lane, ticks))

    def settle(self, tried, lanes, row):
        """The house stands on the ground on which the deed of this row was tried, unless it is too much there."""
        for lane in lanes:
            check_over(tried, lane)
        self.ground = tried
        self.deeds.append(row)

    def tick(self, comes=None):
        told = self.ground.enter({} if comes is None else comes)
        moved = []
        for lane in self.ground.widths:
            moved += carry_on(self.ground, lane)
        outs = self.ground.leave()
        self.now = self.ground.now
        self.deeds.append(("tick", tuple(told), tuple(moved), tuple(outs)))
        return outs

    def lane_rows(self):
        return [(lane, width, self.ground.opening(lane)) for lane, width in self.ground.widths.items()]

    def stream_rows(self):
        return [(name, flow.jar.told(), flow.marks, self.ground.ways[name])
                for name, flow in self.ground.flows.items()]

    def lot_rows(self):
        return [(lot.name, lot.came, lot.many, tuple(lot.stops), lot.hours) for lot in self.ground.lots]

    def standing(self, lane):
        self.ground.check_lane(lane)
        return [(lot.name, lot.came, lot.stops[lane][1], lot.left[lane])
                for lot in self.ground.lots if lot.is_at(lane, self.now - 1)]

    def most_of(self, name):
        self.ground.check_stream(name)
        return self.ground.flows[name].may()

    def book(self):
        return list(self.deeds)

    def scene(self, lane):
        return self.ground.scene_of(lane)


def check_over(ground, lane):
    scene = ground.scene_of(lane)
    stretch = over(scene)
    if stretch is not None:
        first, end = stretch
        names = ground.streams_on(lane)
        rows = future(scene, first, end)
        raise TooMuch(lane, first, end, [(names[place], tick, ticks, many) for place, tick, ticks, many in rows])


def carry_on(ground, lane):
    """The lane carries as many as it can in this tick; told are rows (lane, name, came, many)."""
    if ground.opening(lane) > ground.now:
        return []
    lots = ground.heap_at(lane)
    heap = [(lot.stops[lane][1], lot.left[lane]) for lot in lots]
    parts = carried(ground.widths[lane], heap)
    moved = []
    for hour, place in sorted([(pair[0], place) for place, pair in enumerate(heap)]):
        if parts[place] > 0:
            lot = lots[place]
            lot.left[lane] -= parts[place]
            moved.append((lane, lot.name, lot.came, parts[place]))
    return moved
