"""[9.3] by the tests themselves: the first wrong row of a book whose lanes may carry in any way, and such books."""

import re

from tests.counts import Count, lot_of
from tests.walks import may

TOP = 10 ** 9


def first_unkept(book):
    count = Count()
    for number, row in enumerate(book):
        if not keeps(count, row):
            return number
    return None


def keeps(count, row):
    word, *told = row
    if word == "tick":
        return keeps_tick(count, *told)
    streams = [stream[0] for stream in count.streams]
    lanes = [lane[0] for lane in count.lanes]
    if word == "build":
        good = is_name(told[0]) and told[0] not in lanes and 1 <= told[1] <= TOP
    elif word == "in":
        good = is_name(told[0]) and told[0] not in streams and is_jar(told[1]) and is_way(told[2], lanes)
    elif word == "turn":
        good = told[0] in streams and is_jar(told[1]) and is_way(told[2], lanes)
    elif word == "go":
        good = told[0] in streams
    elif word == "widen":
        good = told[0] in lanes and 1 <= told[1] <= TOP
    elif word == "shut":
        good = told[0] in lanes and 0 <= told[1] <= TOP
    else:
        return False
    if good:
        deed = {"build": count.build, "in": count.let_in, "turn": count.turn, "widen": count.widen, "shut": count.shut}
        count.let_go(told[0]) if word == "go" else deed[word](*told)
    return good


def is_name(text):
    return re.fullmatch("[a-z]{1,8}", text) is not None


def is_jar(numbers):
    size, rate, mouth = numbers
    return 1 <= rate <= mouth <= size <= TOP


def is_way(way, lanes):
    names = [lane for lane, wait in way]
    return (1 <= len(way) <= 4 and len(set(names)) == len(names) and set(names) <= set(lanes)
            and all(1 <= wait <= TOP for lane, wait in way))


def keeps_tick(count, comes, carried, outs):
    if not come_in(count, comes):
        return False
    for lane in {row[0] for row in carried}:
        mine = [row for row in carried if row[0] == lane]
        found = [each for each in count.lanes if each[0] == lane]
        if not found or found[0][2] > count.now or sum(row[3] for row in mine) > found[0][1]:
            return False
    for lane, name, came, many in carried:
        lots = [lot for lot in count.lots if (lot["name"], lot["came"]) == (name, came) and lane in lot["lanes"]]
        if many < 1 or not lots or lots[0]["comes"][lane] > count.now or lots[0]["left"][lane] < many:
            return False
        lots[0]["left"][lane] -= many
    due = tuple((lot["name"], lot["came"], lot["many"]) for lot in count.lots if lot["hours"][-1] == count.now)
    count.lots = [lot for lot in count.lots if lot["hours"][-1] != count.now]
    count.now += 1
    return due == outs and not count.missed()


def come_in(count, comes):
    names = [name for name, many in comes]
    known = [stream[0] for stream in count.streams]
    if len(set(names)) != len(names) or not set(names) <= set(known) or any(many < 1 for name, many in comes):
        return False
    for stream in count.streams:
        name, numbers, marks, way = stream
        many = dict(comes).get(name, 0)
        if many > may(numbers, marks):
            return False
        stream[2] = min(numbers[0], marks - many + numbers[1])
        if many:
            count.lots.append(lot_of(name, count.now, many, way))
    return True


class Carrier:
    """A count whose lanes carry in drawn ways, and the book of it; nothing is judged."""

    def __init__(self, chance, hasty):
        self.chance, self.hasty = chance, hasty
        self.count = Count()
        self.book = []

    def do(self, *row):
        self.book.append(row)
        assert keeps(self.count, row), row

    def tick(self, comes):
        """What is due next goes first, where the lanes are hasty; else anything goes, and maybe too late."""
        assert come_in(self.count, comes)
        carried = []
        for name, width, opens in self.count.lanes:
            if opens <= self.count.now:
                carried += self.carry(name, width)
        self.chance.shuffle(carried)
        outs = [lot for lot in self.count.lots if lot["hours"][-1] == self.count.now]
        self.count.lots = [lot for lot in self.count.lots if lot not in outs]
        self.count.now += 1
        outs = tuple((lot["name"], lot["came"], lot["many"]) for lot in outs)
        self.book.append(("tick", tuple(comes), tuple(carried), outs))

    def carry(self, lane, width):
        lots = [lot for lot in self.count.lots if lot["left"].get(lane) and lot["comes"][lane] <= self.count.now]
        self.chance.shuffle(lots)
        if self.hasty:
            lots.sort(key=lambda lot: lot["next"][lane] > self.count.now + 3)
        told = []
        for lot in lots:
            for _ in range(2):
                many = min(width, lot["left"][lane])
                many = many if self.hasty else self.chance.randrange(many + 1)
                many = self.chance.choice([many, many // 2])
                lot["left"][lane] -= many
                width -= many
                told += [(lane, lot["name"], lot["came"], many)] if many else []
        return told
