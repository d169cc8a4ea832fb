"""Flows: a jar with its marks ahead of the next tick, and what can come of it.

Nothing here walks through a window tick by tick, as windows and rows may be 10 ** 40 ticks long.
"""

from hourlanes.errors import NoJar, NoTick, TooMany


class Flow:
    """A jar ahead of the next tick."""

    def __init__(self, jar, marks=None):
        if marks is None:
            marks = jar.size
        if not 0 <= marks <= jar.size:
            raise NoJar("a flow has from 0 marks to the size of its jar")
        self.jar = jar
        self.marks = marks

    def may(self):
        return min(self.jar.mouth, self.marks)

    def come(self, many=0):
        bound = self.may()
        if not 0 <= many <= bound:
            raise TooMany("", bound)
        self.marks = marks_behind(self.jar, self.marks, 1, many)
        return self.marks

    def ahead(self, ticks):
        if ticks < 0:
            raise NoTick("there are no fewer than 0 ticks ahead")
        return marks_behind(self.jar, self.marks, ticks, 0)

    def most(self, after, ticks):
        marks = self.ahead(after)
        if ticks <= 0:
            return 0
        # What the last tick puts in is too late for the window; as long as each tick takes what
        # it may, nothing is put in beyond the size, so there are no other bounds than these two.
        return min(ticks * self.jar.mouth, marks + (ticks - 1) * self.jar.rate)

    def bursts(self, after, ticks):
        marks = self.ahead(after)
        if ticks <= 0:
            return []
        mouth, rate = self.jar.mouth, self.jar.rate
        wide = mouth_ticks(self.jar, marks, ticks)
        runs = [(wide, mouth)]
        if wide < ticks:
            # The tick behind the wide ones empties the jar: from then on only what is put in comes.
            left = marks - wide * (mouth - rate)
            runs += [(1, left), (ticks - wide - 1, rate)]
        return rows_of(after, runs)

    def fits(self, rows):
        marks = self.marks
        free = 0
        for first, ticks, many in rows:
            if first < free or ticks < 1 or many < 1:
                return False
            marks = marks_behind(self.jar, marks, first - free, 0)
            if not bears(self.jar, marks, ticks, many):
                return False
            marks = marks_behind(self.jar, marks, ticks, many)
            free = first + ticks
        return True


def broken(jar, comes):
    flow = Flow(jar)
    for last, many in enumerate(comes):
        if many > flow.may():
            return (broken_from(jar, comes, last), last)
        flow.come(many)
    return None


def broken_from(jar, comes, last):
    """The greatest first for a tick at which what comes can't, though it could in all ahead of it."""
    full = Flow(jar)
    first = last
    many = comes[last]
    # This ends: from the tick on in which the jar was full for the last time, too much comes.
    while many <= full.most(0, last - first + 1):
        first -= 1
        many += comes[first]
    return first


def marks_behind(jar, marks, ticks, many):
    """The marks behind so many ticks, in each of which many come and can."""
    # Marks only rise or only fall in these ticks, so the size need be heeded but at their end.
    return min(jar.size, marks + ticks * (jar.rate - many))


def bears(jar, marks, ticks, many):
    """Whether many can come in each of so many ticks, one or more."""
    # Marks only rise or only fall, so the first and the last tick are the ones to ask.
    last = marks + (ticks - 1) * (jar.rate - many)
    return many <= jar.mouth and many <= marks and many <= last


def mouth_ticks(jar, marks, ticks):
    """In how many of so many ticks the mouth's number comes, if as many come as may."""
    if marks < jar.mouth:
        return 0
    loss = jar.mouth - jar.rate
    if loss == 0:
        return ticks
    return min(ticks, (marks - jar.mouth) // loss + 1)


def rows_of(first, runs):
    """Runs (ticks, many), one behind another from first on, as rows, the fewest."""
    rows = []
    for ticks, many in runs:
        if rows and rows[-1][2] == many:
            rows[-1] = (rows[-1][0], rows[-1][1] + ticks, many)
        elif ticks > 0:
            rows.append((first, ticks, many))
        first += ticks
    # Only now, so that no two runs are joined over ticks in which nothing comes.
    return [row for row in rows if row[2] > 0]
