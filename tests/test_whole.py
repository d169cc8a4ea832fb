"""[0.2] (a) to (e) over drawn runs of whole houses, of small numbers and of numbers to 10 ** 9."""

import random
import unittest

from hourlanes.books import again, kept, looked
from hourlanes.doors import Door
from hourlanes.errors import TooMuch
from hourlanes.flows import Flow
from hourlanes.jars import Jar
from hourlanes.judging import over
from hourlanes.limits import greatest_size, least_width, longest_shut, quickest
from hourlanes.raising import plan_now, raised
from hourlanes.reading import plan_of, written
from hourlanes.rooms import room, swell
from tests.counts import Audit, looks, looks_of_count, plays
from tests.drawn import Run, tried
from tests.some_scenes import some_jar
from tests.test_too_much import done_on

TOP = 10 ** 9
KINDS = [{"size": 5, "waits": 7, "lanes": 2}, {"size": 9, "waits": 12, "lanes": 4},
         {"size": 40, "waits": 5, "lanes": 3},
         {"size": TOP, "waits": 20, "lanes": 3}, {"size": TOP, "waits": TOP, "lanes": 4}]


class WholeTest(unittest.TestCase):
    def runs(self, first, many):
        for seed in range(many):
            yield Run(random.Random(first + seed), **KINDS[seed % len(KINDS)])

    def test_hours_are_kept_whatever_is_done_in_between(self):
        for run in self.runs(3000, 40):
            door, waits = Door(run.house), {}
            for _ in range(130):
                if run.chance.random() < 0.1:
                    self.at_the_door(run, door, waits)
                run.go_on()
                self.assertEqual(run.count.missed(), [])
            self.assertEqual(Audit(run.house.book()).faults, [])
            for name, counted in looks_of_count(run.count).items():
                self.assertEqual(looks(run.house)[name], counted)

    def at_the_door(self, run, door, waits):
        for name in door.look():
            run.count.let_in(*waits[name])
        name, numbers, way = run.chance.choice(["dew", "ice", "fog"]), some_jar(run.chance, run.size), run.some_way()
        if name not in door.waiting() and name not in run.names():
            if door.wish(name, Jar(*numbers), way):
                run.count.let_in(name, numbers, way)
            else:
                waits[name] = (name, numbers, way)

    def test_what_is_refused_can_not_be_kept(self):
        seen = 0
        for run in self.runs(3100, 40):
            for _ in range(60):
                ahead = run.count.twin()
                row, refusal = run.go_on()
                if refusal is not None and refusal.end - ahead.now < 200:
                    other, lanes = done_on(ahead, row)
                    missed = [lane for lane, hour in plays(other, refusal.rows, refusal.end) if hour <= refusal.end]
                    self.assertIn(refusal.lane, missed)
                    seen += 1
        self.assertGreater(seen, 150)

    def test_what_is_not_refused_is_kept_in_the_worst_futures(self):
        for run in self.runs(3200, 20):
            for _ in range(50):
                run.go_on()
            for lane in run.lanes():
                self.assertIsNone(over(run.house.scene(lane)))
            waits = [0, 1, 3]
            for quiet in waits:
                count = run.count.twin()
                for tick in range(quiet + 25):
                    count.tick({row[0]: 0 if tick < quiet else count.most_of(row[0]) for row in count.streams})
                    self.assertEqual(count.missed(), [])

    def test_limits(self):
        for run in self.runs(3300, 30):
            for _ in range(40):
                run.go_on()
            house = run.house
            lane = run.chance.choice(run.lanes())
            width, ticks = least_width(house, lane), longest_shut(house, lane)
            self.assert_step("widen", house, (lane, width), (lane, width - 1), width > 1)
            self.assert_step("shut", house, (lane, ticks), (lane, ticks + 1), ticks < TOP)
            size, rate, mouth = some_jar(run.chance, run.size)
            way = quickest(house, Jar(size, rate, mouth), [lane])
            if way is None:
                refusal = tried(again(house.book()), "let_in", "new", Jar(size, rate, mouth), [(lane, TOP)])
                self.assertIs(type(refusal), TooMuch)
                continue
            wait = way[0][1]
            self.assert_step("let_in", house, ("new", Jar(size, rate, mouth), way),
                             ("new", Jar(size, rate, mouth), [(lane, wait - 1)]), wait > 1)
            most = greatest_size(house, rate, mouth, way)
            self.assertGreaterEqual(most, size)
            self.assert_step("let_in", house, ("new", Jar(most, rate, mouth), way),
                             ("new", Jar(min(TOP, most + 1), rate, mouth), way), most < TOP)

    def assert_step(self, word, house, limit, beyond, inside):
        """The limit is let by, and one step beyond it, if that is inside the bounds, is refused."""
        self.assertIsNone(tried(again(house.book()), word, *limit))
        if inside:
            self.assertIs(type(tried(again(house.book()), word, *beyond)), TooMuch)

    def test_rooms(self):
        for run in self.runs(3400, 30):
            for _ in range(40):
                run.go_on()
            rooms = {lane: room(run.house.scene(lane)) for lane in run.lanes()}
            for lane, (many, first, last) in rooms.items():
                if last - run.house.now < 200:
                    self.assertEqual(self.stands_behind(again(run.house.book()), lane, first, last), many)
            for _ in range(25):
                run.do("tick", run.some_comes())
                for lane, (many, first, last) in rooms.items():
                    self.assertLessEqual(sum(row[3] for row in run.house.standing(lane)), many)

    def stands_behind(self, house, lane, first, last):
        names = [row[0] for row in house.stream_rows() if lane in dict(row[3])]
        rows = swell(house.scene(lane), first, last)
        while house.now <= last:
            house.tick({names[place]: many for place, tick, ticks, many in rows if tick <= house.now < tick + ticks})
        return sum(row[3] for row in house.standing(lane))

    def test_books_and_texts(self):
        for run in self.runs(3500, 30):
            for _ in range(70):
                run.go_on()
            book = run.house.book()
            self.assertIsNone(looked(book))
            self.assertIsNone(kept(book))
            self.assertEqual(looks(again(book)), looks(run.house))
            plan = plan_now(run.house)
            self.assertEqual(plan_of(written(plan)), plan)

    def test_a_house_that_is_raised_of_a_text_has_its_lanes_and_streams(self):
        for run in self.runs(3600, 30):
            for _ in range(40):
                row = run.drawn()
                if row[0] in ("in", "widen"):
                    try:
                        run.do(*row)
                    except TooMuch:
                        pass
            plan = plan_now(run.house)
            house = raised(plan_of(written(plan)))
            self.assertEqual(house.lane_rows(), run.house.lane_rows())
            self.assertEqual(house.stream_rows(), run.house.stream_rows())

    def test_asking_changes_nothing(self):
        for run in self.runs(3700, 10):
            for _ in range(40):
                run.go_on()
            ahead = looks(run.house)
            for lane in run.lanes():
                room(run.house.scene(lane))
                least_width(run.house, lane)
                run.house.scene(lane).with_ask(Flow(Jar(9, 1, 2)), 0, 1)
            looked(run.house.book())
            kept(run.house.book())
            again(run.house.book()).tick()
            plan_now(run.house)
            self.assertEqual(looks(run.house), ahead)


if __name__ == "__main__":
    unittest.main()
