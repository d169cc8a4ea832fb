"""Houses led through deeds and ticks that are drawn by chance of a seed, with a count led beside them."""

from hourlanes.errors import LaneError, TooMuch
from hourlanes.house import House
from hourlanes.jars import Jar
from tests.counts import Count, looks
from tests.some_scenes import some_jar

TOP = 10 ** 9
LANES = ["a", "b", "mid", "far"]
STREAMS = ["a", "mail", "milk", "ore", "post", "rye"]
DEEDS = ["in", "in", "turn", "go", "widen", "shut", "tick", "tick", "tick", "tick", "tick", "tick"]


class Run:
    """A house and its count; each deed is a row, as a book has it, without what is told."""

    def __init__(self, chance, size=6, waits=9, lanes=3):
        self.chance, self.size, self.waits = chance, size, waits
        self.house, self.count = House(), Count()
        self.deeds = 0
        self.refused = 0
        for name in LANES[:lanes]:
            self.do("build", name, chance.randrange(1, size + 1))

    def names(self):
        return [row[0] for row in self.house.stream_rows()]

    def lanes(self):
        return [row[0] for row in self.house.lane_rows()]

    def some_way(self):
        lanes = self.chance.sample(self.lanes(), self.chance.randrange(1, min(4, len(self.lanes())) + 1))
        return [(lane, self.chance.randrange(1, self.waits + 1)) for lane in lanes]

    def some_comes(self):
        comes = {}
        for name in self.names():
            most = self.house.most_of(name)
            comes[name] = self.chance.choice([0, most, most, self.chance.randrange(most + 1)])
        return {name: many for name, many in comes.items() if many or self.chance.random() < 0.5}

    def drawn(self):
        """The next deed: its word and what is handed in."""
        word = self.chance.choice(DEEDS)
        free = [name for name in STREAMS if name not in self.names()]
        if word == "in" and free:
            return ("in", self.chance.choice(free), some_jar(self.chance, self.size), self.some_way())
        if word == "turn" and self.names():
            return ("turn", self.chance.choice(self.names()), some_jar(self.chance, self.size), self.some_way())
        if word == "go" and self.names():
            return ("go", self.chance.choice(self.names()))
        if word == "widen":
            return ("widen", self.chance.choice(self.lanes()), 1 + self.chance.randrange(min(self.size * 2, TOP)))
        if word == "shut":
            return ("shut", self.chance.choice(self.lanes()), self.chance.randrange(self.waits))
        return ("tick", self.some_comes())

    def do(self, word, *given):
        """What the house tells of a deed, and what the count tells of it; TooMuch is raised, and the count is left."""
        house, count = self.house, self.count
        self.deeds += 1
        if word in ("in", "turn"):
            name, numbers, way = given
            (house.let_in if word == "in" else house.turn)(name, Jar(*numbers), way)
            return None, (count.let_in if word == "in" else count.turn)(name, numbers, way)
        if word == "tick":
            return house.tick(*given), count.tick(*given)[1]
        names = {"build": "build", "go": "let_go", "widen": "widen", "shut": "shut"}
        return getattr(house, names[word])(*given), getattr(count, names[word])(*given)

    def go_on(self):
        """One more deed: told is its row and the refusal, or None; what is refused must have changed nothing."""
        row = self.drawn()
        ahead = looks(self.house)
        try:
            told, counted = self.do(*row)
        except TooMuch as refusal:
            assert looks(self.house) == ahead, row
            self.refused += 1
            return row, refusal
        assert told == counted, (row, told, counted)
        return row, None


def tried(house, word, *given):
    """The refusal of a deed, or None where it is done."""
    try:
        getattr(house, word)(*given)
    except LaneError as refusal:
        return refusal
    return None
