"""Futures: comings by which a stretch needs as much as it can, and whether comings show that it is over."""

from hourlanes.scenes import door_window, known_pieces


def future(scene, first, end):
    told = []
    for place, (flow, after, wait) in enumerate(scene.ask_rows()):
        start, length = door_window(scene.now, after, wait, first, end)
        for begin, ticks, many in flow.bursts(start, length):
            told.append((place, scene.now + begin, ticks, many))
    return told


def shown(scene, first, end, rows):
    asks = scene.ask_rows()
    if not scene.now <= first < end or not all([0 <= row[0] < len(asks) for row in rows]):
        return False
    pieces = known_pieces(scene.known_rows(), first, end)
    for place, (flow, after, wait) in enumerate(asks):
        own = [(tick - scene.now, ticks, many) for at, tick, ticks, many in rows if at == place]
        if not flow.fits(own):
            return False
        start, length = door_window(scene.now, after, wait, first, end)
        pieces += pieces_in(own, start, length)
    return pieces > scene.holds(first, end)


def pieces_in(rows, start, length):
    """How many of the rows' pieces come in this window."""
    return sum([many * max(0, min(tick + ticks, start + length) - max(tick, start)) for tick, ticks, many in rows])
