"""Houses counted by the tests themselves, with no code of the program in it: nothing is refused or judged here."""

import copy
import itertools

from tests.walks import may


class Count:
    """Lanes as lists [name, width, opens], streams as [name, numbers, marks, way], lots as dicts."""

    def __init__(self):
        self.now = 0
        self.lanes = []
        self.streams = []
        self.lots = []

    def twin(self):
        return copy.deepcopy(self)

    def lane(self, name):
        return [lane for lane in self.lanes if lane[0] == name][0]

    def stream(self, name):
        return [stream for stream in self.streams if stream[0] == name][0]

    def build(self, name, width):
        self.lanes.append([name, width, 0])

    def let_in(self, name, numbers, way):
        self.streams.append([name, tuple(numbers), numbers[0], tuple(way)])

    def turn(self, name, numbers, way):
        stream = self.stream(name)
        stream[1:] = [tuple(numbers), min(numbers[0], stream[2]), tuple(way)]

    def let_go(self, name):
        self.streams.remove(self.stream(name))
        return sum(lot["many"] for lot in self.lots if lot["name"] == name)

    def widen(self, name, width):
        self.lane(name)[1] = width

    def shut(self, name, ticks):
        lane = self.lane(name)
        if self.now + ticks > lane[2]:
            lane[2] = self.now + ticks

    def tick(self, comes):
        """A pair: what is carried, tuples (lane, name, came, many), and what is out, tuples (name, came, many)."""
        for stream in self.streams:
            name, numbers, marks, way = stream
            many = comes.get(name, 0)
            if many:
                self.lots.append(lot_of(name, self.now, many, way))
            stream[2] = min(numbers[0], marks - many + numbers[1])
        carried = []
        for name, width, opens in self.lanes:
            if opens <= self.now:
                carried += self.carry(name, width)
        outs = [lot for lot in self.lots if lot["hours"][-1] == self.now]
        self.lots = [lot for lot in self.lots if lot not in outs]
        self.now += 1
        return carried, [(lot["name"], lot["came"], lot["many"]) for lot in outs]

    def carry(self, lane, width):
        """The one due next is carried, as far as the width lets, then the next one."""
        told = []
        while width > 0:
            due = [(lot["next"][lane], place) for place, lot in enumerate(self.lots)
                   if lot["left"].get(lane, 0) and lot["comes"][lane] <= self.now]
            if not due:
                break
            lot = self.lots[min(due)[1]]
            many = min(width, lot["left"][lane])
            lot["left"][lane] -= many
            width -= many
            told.append((lane, lot["name"], lot["came"], many))
        return told

    def missed(self):
        """The lanes, with the hours, at which something that stands there should be carried already."""
        return [(lane, lot["next"][lane]) for lot in self.lots for lane in lot["lanes"]
                if lot["left"][lane] and lot["next"][lane] <= self.now]

    def lane_rows(self):
        return [(name, width, max(opens, self.now)) for name, width, opens in self.lanes]

    def stream_rows(self):
        return [tuple(stream) for stream in self.streams]

    def lot_rows(self):
        return [(lot["name"], lot["came"], lot["many"], lot["lanes"], lot["hours"]) for lot in self.lots]

    def standing(self, lane):
        return [(lot["name"], lot["came"], lot["next"][lane], lot["left"][lane]) for lot in self.lots
                if lot["left"].get(lane, 0) and lot["comes"][lane] < self.now]

    def most_of(self, name):
        stream = self.stream(name)
        return may(stream[1], stream[2])

    def scene_rows(self, lane):
        """A tuple (width, now, knowns, asks, opens), asks being tuples (numbers, marks, after, wait)."""
        knowns = []
        for lot in self.lots:
            if lot["left"].get(lane, 0):
                knowns.append((max(self.now, lot["comes"][lane]), lot["next"][lane], lot["left"][lane]))
        asks = []
        for name, numbers, marks, way in self.streams:
            after = 0
            for leg, wait in way:
                if leg == lane:
                    asks.append((numbers, marks, after, wait))
                after += wait
        width, opens = self.lane(lane)[1:]
        return (width, self.now, knowns, asks, max(opens, self.now))


def lot_of(name, came, many, way):
    hours = [came]
    for lane, wait in way:
        hours.append(hours[-1] + wait)
    lanes = tuple(lane for lane, wait in way)
    return {"name": name, "came": came, "many": many, "lanes": lanes, "hours": tuple(hours),
            "comes": dict(zip(lanes, hours)), "next": dict(zip(lanes, hours[1:])),
            "left": {lane: many for lane in lanes}}


def looks_of_scene(scene):
    asks = [(flow.jar.told(), flow.marks, after, wait) for flow, after, wait in scene.ask_rows()]
    return (scene.width, scene.now, scene.known_rows(), asks, scene.opens)


def looks(house):
    """All that can be seen of a house, its book too."""
    lanes = [row[0] for row in house.lane_rows()]
    return {"now": house.now, "lanes": house.lane_rows(), "streams": house.stream_rows(), "lots": house.lot_rows(),
            "standing": [house.standing(lane) for lane in lanes],
            "most": [house.most_of(row[0]) for row in house.stream_rows()],
            "scenes": [looks_of_scene(house.scene(lane)) for lane in lanes], "book": house.book()}


def looks_of_count(count):
    lanes = [lane[0] for lane in count.lanes]
    return {"now": count.now, "lanes": count.lane_rows(), "streams": count.stream_rows(), "lots": count.lot_rows(),
            "standing": [count.standing(lane) for lane in lanes],
            "most": [count.most_of(stream[0]) for stream in count.streams],
            "scenes": [count.scene_rows(lane) for lane in lanes]}


def plays(count, rows, till):
    """The lanes and hours that are missed, if what comes from now on, till that tick, is what these rows tell."""
    found = []
    while count.now < till:
        comes = {name: many for name, tick, ticks, many in rows if tick <= count.now < tick + ticks}
        for name, many in comes.items():
            stream = count.stream(name)
            assert many <= may(stream[1], stream[2])
        count.tick(comes)
        found += count.missed()
    return found


def all_missed(count, ticks):
    """Whether something is missed in any future of so many ticks: all that can come is tried in each of them."""
    found = {state_of(count): count}
    for _ in range(ticks):
        reached = {}
        for each in found.values():
            names = [stream[0] for stream in each.streams]
            for comes in itertools.product(*[range(each.most_of(name) + 1) for name in names]):
                other = each.twin()
                other.tick(dict(zip(names, comes)))
                if other.missed():
                    return True
                reached[state_of(other)] = other
        found = reached
    return False


def state_of(count):
    """What the hours that are to come hang on."""
    return (tuple(stream[2] for stream in count.streams),
            tuple(sorted((lane, lot["next"][lane], max(count.now, lot["comes"][lane]), lot["left"][lane])
                         for lot in count.lots for lane in lot["lanes"] if lot["left"][lane])))


class Audit:
    """A book's own rows, read one by one: each fault is told, so that a good book tells none."""

    def __init__(self, book):
        self.count = Count()
        self.carried = {}
        self.lots = []
        self.faults = []
        for number, row in enumerate(book):
            self.read(number, row)

    def read(self, number, row):
        word, *told = row
        count = self.count
        if word == "tick":
            self.read_tick(number, *told)
        elif word == "build":
            count.build(*told)
        elif word == "in":
            count.let_in(*told)
        elif word == "turn":
            count.turn(*told)
        elif word == "go":
            count.streams.remove(count.stream(told[0]))
        elif word == "widen":
            count.widen(*told)
        else:
            count.shut(*told)

    def read_tick(self, number, comes, carried, outs):
        now = self.count.now
        for name, many in comes:
            self.lots.append(lot_of(name, now, many, self.count.stream(name)[3]))
        for stream in self.count.streams:
            many = dict(comes).get(stream[0], 0)
            if not 0 <= many <= may(stream[1], stream[2]):
                self.faults.append((number, "came", stream[0]))
            stream[2] = min(stream[1][0], stream[2] - many + stream[1][1])
        used = {}
        for lane, name, came, many in carried:
            used[lane] = used.get(lane, 0) + many
            lots = [lot for lot in self.lots if (lot["name"], lot["came"]) == (name, came)]
            if len(lots) != 1 or not lots[0]["comes"][lane] <= now < lots[0]["next"][lane] or many < 1:
                self.faults.append((number, "carried", name))
            lots[0]["left"][lane] -= many
        for name, width, opens in self.count.lanes:
            if used.get(name, 0) > (width if opens <= now else 0):
                self.faults.append((number, "width", name))
        self.look_at_hours(number, now, outs)
        self.count.now += 1

    def look_at_hours(self, number, now, outs):
        for lot in self.lots:
            for lane in lot["lanes"]:
                left = lot["left"][lane]
                if left < 0 or left and lot["next"][lane] <= now + 1:
                    self.faults.append((number, "left", lot["name"]))
        due = [(lot["name"], lot["came"], lot["many"]) for lot in self.lots if lot["hours"][-1] == now]
        if tuple(due) != outs:
            self.faults.append((number, "outs", due))
        self.lots = [lot for lot in self.lots if lot["hours"][-1] > now]
