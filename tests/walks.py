"""What the tests know by walking tick by tick, with no code of the program in it."""

JARS = [(size, rate, mouth)
        for size in range(1, 6)
        for mouth in range(1, size + 1)
        for rate in range(1, mouth + 1)]


def may(numbers, marks):
    size, rate, mouth = numbers
    return mouth if mouth < marks else marks


def behind(numbers, marks, many):
    """The marks behind a tick in which many come, None where they can't."""
    size, rate, mouth = numbers
    if many < 0 or many > mouth or many > marks:
        return None
    marks -= many
    for _ in range(rate):
        if marks < size:
            marks += 1
    return marks


def walked(numbers, marks, comes):
    """The marks behind these ticks, and the first tick that can't be, or None."""
    for tick, many in enumerate(comes):
        after = behind(numbers, marks, many)
        if after is None:
            return marks, tick
        marks = after
    return marks, None


def greedy(numbers, marks, after, ticks):
    """What comes tick by tick: nothing ahead of the window, and as many as may in it."""
    comes = []
    for tick in range(after + ticks):
        many = 0 if tick < after else may(numbers, marks)
        marks = behind(numbers, marks, many)
        comes.append(many)
    return comes


def best(numbers, marks, after, ticks):
    """The most of all ways to come ahead of the window and in it, every one of them tried."""
    found = {marks: 0}
    for tick in range(after + ticks):
        reached = {}
        for held, sum_then in found.items():
            for many in range(may(numbers, held) + 1):
                left = behind(numbers, held, many)
                counted = sum_then + (many if tick >= after else 0)
                reached[left] = max(counted, reached.get(left, 0))
        found = reached
    return max(found.values())


def rows_of(comes):
    """The fewest rows for what comes tick by tick."""
    rows = []
    for tick, many in enumerate(comes):
        if many and rows and rows[-1][2] == many and sum(rows[-1][:2]) == tick:
            rows[-1] = (rows[-1][0], rows[-1][1] + 1, many)
        elif many:
            rows.append((tick, 1, many))
    return rows


def comes_of(rows):
    """What comes tick by tick by these rows, None where they are no rows in order."""
    comes = []
    for first, ticks, many in rows:
        if first < len(comes) or ticks < 1 or many < 1:
            return None
        comes += [0] * (first - len(comes)) + [many] * ticks
    return comes
