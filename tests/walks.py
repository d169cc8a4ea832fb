"""What the tests know by walking tick by tick, with no code of the program in it."""

JARS = [(size, rate, mouth)
        for size in range(1, 6)
        for mouth in range(1, size + 1)
        for rate in range(1, mouth + 1)]


def may(numbers, marks):
    size, rate, mouth = numbers
    return mouth if mouth < marks else marks


def behind(numbers, marks, many):
    """The marks behind a tick in which many come, None where they can't."""
    size, rate, mouth = numbers
    if many < 0 or many > mouth or many > marks:
        return None
    marks -= many
    for _ in range(rate):
        if marks < size:
            marks += 1
    return marks


def walked(numbers, marks, comes):
    """The marks behind these ticks, and the first tick that can't be, or None."""
    for tick, many in enumerate(comes):
        after = behind(numbers, marks, many)
        if after is None:
            return marks, tick
        marks = after
    return marks, None


def greedy(numbers, marks, after, ticks):
    """What comes tick by tick: nothing ahead of the window, and as many as may in it."""
    comes = []
    for tick in range(after + ticks):
        many = 0 if tick < after else may(numbers, marks)
        marks = behind(numbers, marks, many)
        comes.append(many)
    return comes


def best(numbers, marks, after, ticks):
    """The most of all ways to come ahead of the window and in it, every one of them tried."""
    return best_in(numbers, marks, [tick >= after for tick in range(after + ticks)])


def best_in(numbers, marks, counted):
    """The most of all ways to come in these ticks, every one of them tried; only those of True ones count."""
    found = {marks: 0}
    for counts in counted:
        reached = {}
        for held, sum_then in found.items():
            for many in range(may(numbers, held) + 1):
                left = behind(numbers, held, many)
                sum_now = sum_then + (many if counts else 0)
                reached[left] = max(sum_now, reached.get(left, 0))
        found = reached
    return max(found.values())


def rows_of(comes):
    """The fewest rows for what comes tick by tick."""
    rows = []
    for tick, many in enumerate(comes):
        if many and rows and rows[-1][2] == many and sum(rows[-1][:2]) == tick:
            rows[-1] = (rows[-1][0], rows[-1][1] + 1, many)
        elif many:
            rows.append((tick, 1, many))
    return rows


def comes_of(rows):
    """What comes tick by tick by these rows, None where they are no rows in order."""
    comes = []
    for first, ticks, many in rows:
        if first < len(comes) or ticks < 1 or many < 1:
            return None
        comes += [0] * (first - len(comes)) + [many] * ticks
    return comes


def carried_piece_by_piece(width, heap):
    """How many of each pair are carried: width times one piece is taken, always the next one due."""
    left = [many for hour, many in heap]
    for _ in range(width):
        due = [(heap[place][0], place) for place in range(len(heap)) if left[place]]
        if not due:
            break
        left[min(due)[1]] -= 1
    return [many - rest for (hour, many), rest in zip(heap, left)]


def ran_tick_by_tick(width, lots):
    """What a lane carries of these lots, by a walk from tick 0 on."""
    left = [many for come, hour, many in lots]
    told = []
    tick = 0
    while any(left):
        heap = [(hour, left[place] if come <= tick else 0) for place, (come, hour, many) in enumerate(lots)]
        parts = carried_piece_by_piece(width, heap)
        for place in sorted(range(len(lots)), key=lambda place: lots[place][1]):
            if parts[place]:
                told.append((tick, place, parts[place]))
                left[place] -= parts[place]
        tick += 1
    return told


def can_keep(width, lots):
    """Whether some way of carrying keeps all hours: every one is tried, tick by tick."""
    found = {tuple([many for come, hour, many in lots])}
    for tick in range(max([hour for come, hour, many in lots], default=0)):
        reached = set()
        for left in found:
            reached |= lefts_behind(width, lots, left, tick)
        found = {left for left in reached
                 if not any(rest and lots[place][1] <= tick + 1 for place, rest in enumerate(left))}
    return bool(found)


def lefts_behind(width, lots, left, tick):
    """What can be left of the lots behind a tick, by all ways to carry in it."""
    ways = {(): width}
    for (come, hour, many), rest in zip(lots, left):
        longer = {}
        for ahead, free in ways.items():
            for part in range(min(free, rest if come <= tick else 0) + 1):
                longer[(*ahead, rest - part)] = free - part
        ways = longer
    return set(ways)


def needed(now, knowns, asks, first, end):
    """What a stretch needs, each tick at the door asked for itself; asks are tuples (numbers, marks, after, wait)."""
    pieces = sum(many for come, hour, many in knowns if first <= come and hour <= end)
    for numbers, marks, after, wait in asks:
        counted = [is_needed(door, after, wait, first, end) for door in range(now, end)]
        pieces += best_in(numbers, marks, counted)
    return pieces


def is_needed(door, after, wait, first, end):
    """Whether what comes in this tick at the door comes to the lane, and must be carried, in the stretch."""
    return door + after >= first and door + after + wait <= end


def open_ticks(first, end, opens):
    return len([tick for tick in range(first, end) if tick >= opens])


def shown_by(width, now, knowns, asks, opens, first, end, rows):
    """Whether rows (place, tick, ticks, many) show that the stretch is over, by a walk through their ticks."""
    if first < now or end <= first:
        return False
    pieces = sum(many for come, hour, many in knowns if first <= come and hour <= end)
    for place, tick, ticks, many in rows:
        if place not in range(len(asks)):
            return False
    for place, (numbers, marks, after, wait) in enumerate(asks):
        comes = comes_of([(tick - now, ticks, many) for at, tick, ticks, many in rows if at == place])
        if comes is None or walked(numbers, marks, comes)[1] is not None:
            return False
        pieces += sum(many for tick, many in enumerate(comes) if is_needed(now + tick, after, wait, first, end))
    return pieces > width * open_ticks(first, end, opens)
