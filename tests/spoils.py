"""Books with one row spoilt, drawn by chance of a seed."""

WORDS = ["build", "in", "turn", "go", "widen", "shut", "hop", ""]
NAMES = ["a", "b", "mid", "mail", "milk", "ore", "zz", "Z", ""]


def spoilt(chance, book, number):
    """A pair: the word for what is done, and the book with that done at this row."""
    done = chance.choice(["word", "name", "number", "order", "jar", "out", "twice", "swap", "part", "double"])
    row = book[number]
    if done == "out":
        return done, [*book[:number], *book[number + 1:]]
    if done == "twice":
        return done, [*book[:number], row, row, *book[number + 1:]]
    if done == "swap":
        return done, [*book[:number], *book[number + 1:number + 2], row, *book[number + 2:]]
    return done, [*book[:number], SPOILS[done](chance, row), *book[number + 1:]]


def other_word(chance, row):
    words = [word for word in WORDS if word != row[0]]
    if row[0] in ("build", "widen", "shut", "go"):
        words = ["build", "widen", "shut", "go", "hop", ""]
    elif row[0] == "tick":
        words = ["tock", "", "Tick"]
    elif row[0] in ("in", "turn"):
        words = ["in", "turn", "into", ""]
    return (chance.choice(words), *row[1:])


def leaves(row, kind, path=()):
    """The paths of all values of that kind in a row, but for its word."""
    found = []
    for at, part in enumerate(row):
        if isinstance(part, tuple):
            found += leaves(part, kind, (*path, at))
        elif isinstance(part, kind) and (path or at):
            found.append((*path, at))
    return found


def with_leaf(row, path, change):
    at = path[0]
    part = with_leaf(row[at], path[1:], change) if len(path) > 1 else change(row[at])
    return (*row[:at], part, *row[at + 1:])


def other_name(chance, row):
    paths = leaves(row, str)
    return with_leaf(row, chance.choice(paths), lambda name: chance.choice(NAMES)) if paths else row


def other_number(chance, row):
    paths = leaves(row, int)
    steps = [-10 ** 9, -2, -1, 1, 2, 10 ** 9]
    return with_leaf(row, chance.choice(paths), lambda number: number + chance.choice(steps)) if paths else row


def other_order(chance, row):
    places = [at for at, part in enumerate(row) if isinstance(part, tuple) and len(part) > 1]
    if not places:
        return row
    at = chance.choice(places)
    return (*row[:at], tuple(chance.sample(row[at], len(row[at]))), *row[at + 1:])


def no_jar(chance, row):
    if row[0] not in ("in", "turn"):
        return other_number(chance, row)
    size, rate, mouth = row[2]
    jars = [(size, 0, mouth), (size, mouth + 1, mouth), (mouth - 1, rate, mouth), (10 ** 9 + 1, rate, mouth), (0, 0, 0)]
    return (*row[:2], chance.choice(jars), *row[3:])


def less_of_a_part(chance, row):
    places = [at for at, part in enumerate(row) if isinstance(part, tuple) and part and isinstance(part[0], tuple)]
    if not places:
        return row
    at = chance.choice(places)
    gone = chance.randrange(len(row[at]))
    return (*row[:at], row[at][:gone] + row[at][gone + 1:], *row[at + 1:])


def double_part(chance, row):
    places = [at for at, part in enumerate(row) if isinstance(part, tuple) and part and isinstance(part[0], tuple)]
    if not places:
        return row
    at = chance.choice(places)
    return (*row[:at], (*row[at], chance.choice(row[at])), *row[at + 1:])


SPOILS = {"word": other_word, "name": other_name, "number": other_number, "order": other_order, "jar": no_jar,
          "part": less_of_a_part, "double": double_part}
