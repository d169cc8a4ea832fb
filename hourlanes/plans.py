"""Plans: lanes with their widths, and streams with their jars and ways."""

from hourlanes.names import check_name, check_way, check_width, legs_of


class Plan:
    """Lanes and streams, in order; it never changes."""

    def __init__(self, lanes, streams):
        check_lanes(lanes)
        check_streams(streams, [name for name, width in lanes])
        self.lanes = [(name, width) for name, width in lanes]
        self.streams = [(name, jar, legs_of(way)) for name, jar, way in streams]

    def __eq__(self, other):
        return isinstance(other, Plan) and self.lanes == other.lanes and self.streams == other.streams


def check_lanes(lanes):
    taken = []
    for name, width in lanes:
        check_name(name, taken)
        check_width(width)
        taken.append(name)


def check_streams(streams, lanes):
    taken = []
    for name, jar, way in streams:
        check_name(name, taken)
        check_way(way, lanes)
        taken.append(name)
