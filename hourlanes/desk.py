"""The desk: a house led and asked by the rows of a text."""

from hourlanes.errors import NoJar, NoLane, NoName, NoTick, NoWay, Taken, TooMany, TooMuch, Unknown
from hourlanes.house import House
from hourlanes.jars import Jar
from hourlanes.limits import greatest_size, least_width, longest_shut, quickest
from hourlanes.raising import plan_now
from hourlanes.reading import is_number, words_of, written
from hourlanes.rooms import room

NO_ROW = "no row"
# What stands behind each word: w is any word, n a number; then what may stand again and again.
FORMS = {
    "lane": ("wn", ""), "in": ("wnnn", "wn"), "turn": ("wnnn", "wn"), "go": ("w", ""),
    "widen": ("wn", ""), "shut": ("wn", ""), "tick": ("", "wn"),
    "quick": ("nnn", "w"), "size": ("nn", "wn"), "width": ("w", ""), "rest": ("w", ""),
    "room": ("w", ""), "stands": ("w", ""), "plan": ("", ""),
}


def pairs_of(values):
    return list(zip(values[::2], values[1::2]))


def listed(pairs):
    return ", ".join([f"{name} {number}" for name, number in pairs])


def or_never(number):
    return "never" if number is None else str(number)


def on_lane(house, values):
    name, width = values
    house.build(name, width)
    return "ok"


def on_in(house, values):
    name, size, rate, mouth = values[:4]
    house.let_in(name, Jar(size, rate, mouth), pairs_of(values[4:]))
    return "ok"


def on_turn(house, values):
    name, size, rate, mouth = values[:4]
    house.turn(name, Jar(size, rate, mouth), pairs_of(values[4:]))
    return "ok"


def on_go(house, values):
    return str(house.let_go(values[0]))


def on_widen(house, values):
    lane, width = values
    house.widen(lane, width)
    return "ok"


def on_shut(house, values):
    lane, ticks = values
    house.shut(lane, ticks)
    return "ok"


def on_tick(house, values):
    comes = dict(pairs_of(values))
    if len(comes) * 2 < len(values):
        return NO_ROW
    outs = house.tick(comes)
    return listed([(name, many) for name, came, many in outs]) if outs else "nothing"


def on_quick(house, values):
    size, rate, mouth = values[:3]
    way = quickest(house, Jar(size, rate, mouth), values[3:])
    return "never" if way is None else listed(way)


def on_size(house, values):
    return or_never(greatest_size(house, values[0], values[1], pairs_of(values[2:])))


def on_width(house, values):
    return or_never(least_width(house, values[0]))


def on_rest(house, values):
    return or_never(longest_shut(house, values[0]))


def on_room(house, values):
    many, first, last = room(house.scene(values[0]))
    return str(many)


def on_stands(house, values):
    return str(sum([left for name, came, hour, left in house.standing(values[0])]))


def on_plan(house, values):
    rows = [row for row in written(plan_now(house)).split("\n") if row]
    return " / ".join(rows) if rows else "nothing"


ACTIONS = {
    "lane": on_lane, "in": on_in, "turn": on_turn, "go": on_go, "widen": on_widen, "shut": on_shut, "tick": on_tick,
    "quick": on_quick, "size": on_size, "width": on_width, "rest": on_rest, "room": on_room, "stands": on_stands,
    "plan": on_plan,
}


def answered(text):
    house = House()
    rows = [words_of(line) for line in text.split("\n")]
    return [answer(house, words) for words in rows if words]


def answer(house, words):
    values = values_of(words)
    if values is None:
        return NO_ROW
    action = ACTIONS[words[0]]
    try:
        return action(house, values)
    except NoJar:
        return "no jar"
    except NoTick:
        return "no tick"
    except NoLane:
        return "no width"
    except NoName as misnamed:
        return f"no name {misnamed.name}"
    except Taken as taken:
        return f"taken {taken.name}"
    except Unknown as unknown:
        return f"unknown {unknown.name}"
    except NoWay as astray:
        return f"no way {astray.place}"
    except TooMany as crowd:
        return f"too many {crowd.name} {crowd.bound}"
    except TooMuch as burden:
        return f"too much {burden.lane}"


def values_of(words):
    """What stands behind the first word, numbers as such; None where the words are no row."""
    if words[0] not in FORMS:
        return None
    kinds = kinds_of(words[0], len(words) - 1)
    if kinds is None:
        return None
    values = []
    for kind, word in zip(kinds, words[1:]):
        if kind == "n" and word != "0" and not is_number(word):
            return None
        values.append(int(word) if kind == "n" else word)
    return values


def kinds_of(word, many):
    """The kinds of so many words behind this one, or None where there are never so many."""
    head, tail = FORMS[word]
    kinds = head
    # A tick alone has no names; all other rows with a tail have it once or more.
    if tail and word != "tick":
        kinds += tail
    while tail and len(kinds) < many:
        kinds += tail
    return kinds if len(kinds) == many else None
