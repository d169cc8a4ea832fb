"""Grounds: lanes, streams and lots, as deeds and ticks lead them.

Deeds are refused here for all reasons but TooMuch: whether all pieces can keep their hours is judged by houses.
"""

from hourlanes.errors import NoTick, TooMany, Unknown
from hourlanes.flows import Flow
from hourlanes.jars import LARGEST
from hourlanes.lots import Lot, stops_of
from hourlanes.names import check_name, check_way, check_width, legs_of
from hourlanes.scenes import Scene


class Ground:
    """Lanes with their widths and openings, streams with their flows and ways, all by name and in order, and lots."""

    def __init__(self):
        self.now = 0
        self.widths = {}
        self.openings = {}
        self.flows = {}
        self.ways = {}
        self.lots = []

    def twin(self):
        """Another ground like this one, on which a deed may be tried."""
        other = Ground()
        other.now = self.now
        other.widths = dict(self.widths)
        other.openings = dict(self.openings)
        # The flows and lots are the very same, as they are changed by ticks alone.
        other.flows = dict(self.flows)
        other.ways = dict(self.ways)
        other.lots = list(self.lots)
        return other

    def check_lane(self, lane):
        if lane not in self.widths:
            raise Unknown(lane)

    def check_stream(self, name):
        if name not in self.flows:
            raise Unknown(name)

    def build(self, name, width):
        check_name(name, self.widths)
        check_width(width)
        self.widths[name] = width
        self.openings[name] = 0

    def let_in(self, name, jar, way):
        check_name(name, self.flows)
        check_way(way, self.widths)
        self.flows[name] = Flow(jar)
        self.ways[name] = legs_of(way)

    def turn(self, name, jar, way):
        self.check_stream(name)
        check_way(way, self.widths)
        self.flows[name] = Flow(jar, min(jar.size, self.flows[name].marks))
        self.ways[name] = legs_of(way)

    def let_go(self, name):
        self.check_stream(name)
        del self.flows[name]
        del self.ways[name]
        return sum([lot.many for lot in self.lots if lot.name == name])

    def widen(self, lane, width):
        self.check_lane(lane)
        check_width(width)
        self.widths[lane] = width

    def shut(self, lane, ticks):
        self.check_lane(lane)
        if not 0 <= ticks <= LARGEST:
            raise NoTick("a lane is shut for 0 to 10 ** 9 ticks")
        self.openings[lane] = max(self.openings[lane], self.now + ticks)

    def opening(self, lane):
        """The first tick from now on in which the lane is not shut."""
        return max(self.now, self.openings[lane])

    def streams_on(self, lane):
        return [name for name, way in self.ways.items() if lane in [leg[0] for leg in way]]

    def known_at(self, lane):
        rows = []
        for lot in self.lots:
            if lane in lot.stops and lot.left[lane] > 0:
                come, hour = lot.stops[lane]
                rows.append((max(come, self.now), hour, lot.left[lane]))
        return rows

    def asks_at(self, lane):
        rows = []
        for name in self.streams_on(lane):
            after, out = stops_of(0, self.ways[name])[lane]
            rows.append((self.flows[name], after, out - after))
        return rows

    def scene_of(self, lane):
        self.check_lane(lane)
        return Scene(self.widths[lane], self.now, self.known_at(lane), self.asks_at(lane), self.opening(lane))

    def heap_at(self, lane):
        """The lots that have come to the lane, in this tick too, and of which something is not carried there."""
        return [lot for lot in self.lots if lot.is_at(lane, self.now)]

    def enter(self, comes):
        """So many come in this tick; told are pairs (name, many) of the streams of which some do."""
        for name in comes:
            self.check_stream(name)
        for name, flow in self.flows.items():
            if not 0 <= comes.get(name, 0) <= flow.may():
                raise TooMany(name, flow.may())
        told = [(name, comes[name]) for name in self.flows if comes.get(name, 0) > 0]
        for name, flow in self.flows.items():
            flow.come(comes.get(name, 0))
        for name, many in told:
            self.lots.append(Lot(name, self.now, many, self.ways[name]))
        return told

    def leave(self):
        """The tick is done: told are tuples (name, came, many) of the lots that are out."""
        outs = [(lot.name, lot.came, lot.many) for lot in self.lots if lot.hours[-1] == self.now]
        self.lots = [lot for lot in self.lots if lot.hours[-1] > self.now]
        self.now += 1
        return outs
