"""Books: houses led through the rows of a book again, and books looked through for their first wrong row.

The deeds of a row are done on a house or on a ground alike: a ground refuses them for all reasons but TooMuch.
"""

from hourlanes.errors import LaneError, NoBook
from hourlanes.grounds import Ground
from hourlanes.house import House
from hourlanes.jars import Jar


def do_build(place, row):
    place.build(row[1], row[2])


def do_let_in(place, row):
    size, rate, mouth = row[2]
    place.let_in(row[1], Jar(size, rate, mouth), row[3])


def do_turn(place, row):
    size, rate, mouth = row[2]
    place.turn(row[1], Jar(size, rate, mouth), row[3])


def do_let_go(place, row):
    place.let_go(row[1])


def do_widen(place, row):
    place.widen(row[1], row[2])


def do_shut(place, row):
    place.shut(row[1], row[2])


DEEDS = {"build": do_build, "in": do_let_in, "turn": do_turn, "go": do_let_go, "widen": do_widen, "shut": do_shut}


def looked(book):
    return wrong_row(House(), book, leads_on)


def again(book):
    house = House()
    row = wrong_row(house, book, leads_on)
    if row is not None:
        raise NoBook(row)
    return house


def kept(book):
    return wrong_row(Ground(), book, keeps_on)


def wrong_row(place, book, step):
    """A house or a ground is led through the rows by this step: told is the first number where it fails, or None."""
    for number, row in enumerate(book):
        try:
            good = step(place, row)
        except LaneError:
            good = False
        if not good:
            return number
    return None


def leads_on(house, row):
    """Whether the house, led on by this row, keeps this very one."""
    if row[0] == "tick":
        house.tick(dict(row[1]))
    elif row[0] in DEEDS:
        deed = DEEDS[row[0]]
        deed(house, row)
    else:
        return False
    return house.book()[-1] == row


def keeps_on(ground, row):
    """Whether the row is right where lanes may carry in any way; the ground is led on by it."""
    if row[0] == "tick":
        return keeps_tick(ground, row)
    if row[0] not in DEEDS:
        return False
    deed = DEEDS[row[0]]
    deed(ground, row)
    return True


def keeps_tick(ground, row):
    word, comes, moved, outs = row
    names = [name for name, many in comes]
    if len(set(names)) < len(names) or not all([many >= 1 for name, many in comes]):
        return False
    ground.enter(dict(comes))
    return carries(ground, moved) and not is_late(ground) and tuple(ground.leave()) == outs


def carries(ground, moved):
    """Whether all this can be carried in this tick; if so, it is."""
    free = {lane: width for lane, width in ground.widths.items() if ground.opening(lane) == ground.now}
    for lane, name, came, many in moved:
        lots = [lot for lot in ground.heap_at(lane) if lot.name == name and lot.came == came]
        if not lots or not 1 <= many <= min(lots[0].left[lane], free.get(lane, 0)):
            return False
        lots[0].left[lane] -= many
        free[lane] -= many
    return True


def is_late(ground):
    """Whether something stands that would have to be carried in this tick at the latest."""
    return any([lot.left[lane] > 0 and lot.stops[lane][1] == ground.now + 1
                for lot in ground.lots for lane in lot.stops])
