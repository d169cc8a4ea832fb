"""[8.1], [8.2] and [0.2] (d): the most that can stand at a lane, and comings by which so many do."""

import random
import unittest

from hourlanes.flows import Flow
from hourlanes.house import House
from hourlanes.jars import Jar
from hourlanes.rooms import room, swell
from hourlanes.scenes import Scene
from tests import some_scenes
from tests.counts import looks_of_scene
from tests.drawn import Run
from tests.standings import comings_of, drawn_comings, most_stood, stood

TOP = 10 ** 9


def left_of(scene, first, last):
    """What stands at least behind last: what can come from first on, less what the lane can carry."""
    pieces = sum(many for come, hour, many in scene.known_rows() if first <= come <= last)
    for flow, after, wait in scene.ask_rows():
        start = max(scene.now, first - after)
        pieces += flow.most(start - scene.now, last - after - start + 1)
    return pieces - scene.width * max(0, last + 1 - max(first, scene.opens))


def windows_named(scene):
    """The windows that [8.1] names."""
    knowns, asks = scene.known_rows(), scene.ask_rows()
    comes = [come for come, hour, many in knowns]
    fulls = [scene.now + after + -((flow.marks - flow.jar.size) // flow.jar.rate) for flow, after, wait in asks]
    for first in [scene.now, *comes, max([scene.now, scene.opens, *comes, *fulls])]:
        lasts = [*comes, scene.opens - 1]
        for flow, after, wait in asks:
            begin = max(first, scene.now + after)
            rows = flow.bursts(begin - after - scene.now, 10 ** 20)
            lasts.append(begin)
            for start, ticks, many in rows:
                lasts += [scene.now + after + start + step for step in [-1, 0, 1]]
                lasts += [scene.now + after + start + ticks + step for step in [-2, -1, 0]]
        yield from [(first, last) for last in lasts if first <= last]


class RoomTest(unittest.TestCase):
    def assert_reached(self, numbers, scene, told, ticks):
        """Behind the last tick that is told, by a walk through what swell tells, just so many stand."""
        many, first, last = told
        self.assertTrue(scene.now <= first <= last, told)
        if last - scene.now < ticks:
            comings = comings_of(numbers, swell(scene, first, last), ticks)
            self.assertEqual(stood(numbers, comings, ticks)[last - scene.now], many)
            return 1
        return 0

    def test_small_scenes_over_many_comings(self):
        chance = random.Random(81)
        seen = {"none": 0, "nought": 0, "reached": 0, "met": 0}
        for _ in range(700):
            numbers = some_scenes.small(chance)
            scene = some_scenes.made(*numbers)
            told = room(scene)
            if told is None:
                self.assertGreater(sum(ask[0][1] for ask in numbers[3]), numbers[0])
                seen["none"] += 1
                continue
            self.assertLessEqual(sum(ask[0][1] for ask in numbers[3]), numbers[0])
            self.assertIsInstance(told, tuple)
            for _ in range(12):
                most = max(stood(numbers, drawn_comings(chance, numbers, 40), 55))
                self.assertLessEqual(most, told[0], numbers)
                seen["met"] += most == told[0]
            seen["reached"] += self.assert_reached(numbers, scene, told, 60)
            seen["nought"] += told == (0, numbers[1], numbers[1])
            self.assertEqual(told[0] == 0, told == (0, numbers[1], numbers[1]))
        self.assertGreater(min(seen.values()), 40, seen)

    def test_all_comings_of_tiny_scenes(self):
        chance = random.Random(82)
        seen = 0
        for _ in range(150):
            now = chance.choice([0, 3])
            knowns = [some_scenes.some_known(chance, now, 5, 4) for _ in range(chance.randrange(3))]
            asks = [some_scenes.some_ask(chance, 3, 3) for _ in range(chance.randrange(1, 3))]
            width = sum(ask[0][1] for ask in asks) + chance.choice([0, 0, 1])
            numbers = (width, now, knowns, asks, now + chance.randrange(4))
            many, first, last = room(some_scenes.made(*numbers))
            most = most_stood(numbers, 8)
            self.assertLessEqual(most, many, numbers)
            if last < now + 8:
                self.assertEqual(most, many, numbers)
                seen += 1
        self.assertGreater(seen, 100)

    def test_rates_above_the_width(self):
        self.assertIsNone(room(Scene(1, 0, [], [(Flow(Jar(2, 2, 2)), 0, 5)])))
        self.assertIsNone(room(Scene(3, 0, [], [(Flow(Jar(2, 2, 2)), 0, 5), (Flow(Jar(2, 2, 2)), 9, 1)])))
        self.assertEqual(room(Scene(4, 0, [], [(Flow(Jar(2, 2, 2)), 0, 5), (Flow(Jar(2, 2, 2)), 9, 1)])), (0, 0, 0))

    def test_nothing_stands(self):
        self.assertEqual(room(Scene(3, 7, [], [])), (0, 7, 7))
        self.assertEqual(room(scene=Scene(3, 7, [(9, 10, 3)], [])), (0, 7, 7))
        self.assertEqual(room(Scene(3, 7, [], [], 20)), (0, 7, 7))
        self.assertEqual(room(Scene(3, 7, [(7, 8, 3)], [(Flow(Jar(3, 3, 3)), 0, 1)]))[0], 3)

    def test_knowns_alone(self):
        self.assertEqual(room(Scene(3, 2, [(5, 9, 4), (6, 9, 3), (20, 90, 5)], [])), (2, 20, 20))
        self.assertEqual(room(Scene(3, 2, [(5, 9, 5), (6, 9, 4), (20, 90, 5)], [])), (3, 5, 6))
        self.assertEqual(swell(Scene(3, 2, [(5, 9, 5)], []), 5, 6), [])

    def test_opens_far_off(self):
        far = 10 ** 12
        jar = Jar(10, 2, 4)
        scene = Scene(3, 5, [(8, 9, 6)], [(Flow(jar, 0), 3, 2)], far)
        many, first, last = room(scene)
        self.assertEqual((many, last), (6 + 2 * (far - 1 - 8), far - 1))
        self.assertEqual(left_of(scene, first, last), many)
        self.assertEqual(swell(scene, first, last), [(0, 6, far - 9, 2)])

    def test_a_jar_that_is_not_full(self):
        scene = Scene(1, 0, [], [(Flow(Jar(10, 1, 10), 3), 0, 5)])
        many, first, last = room(scene)
        self.assertEqual(many, 9)
        self.assertGreaterEqual(first, 7)
        self.assertEqual(swell(scene, first, last), [(0, first, 1, 10)])

    def test_the_windows_that_are_named(self):
        chance = random.Random(83)
        for _ in range(400):
            scene = some_scenes.made(*some_scenes.small(chance))
            self.assert_best(scene)

    def test_great_scenes(self):
        chance = random.Random(84)
        for _ in range(12):
            asks = []
            for _ in range(9):
                jar = Jar(*some_scenes.some_jar(chance, TOP))
                flow = Flow(jar, chance.randrange(jar.size + 1))
                asks.append((flow, chance.randrange(TOP), 1 + chance.randrange(TOP)))
            now = chance.choice([0, 10 ** 39])
            knowns = [some_scenes.some_known(chance, now, TOP, TOP) for _ in range(60)]
            rates = sum(flow.jar.rate for flow, after, wait in asks)
            for width in [rates, rates + 1, rates * 2, rates - 1]:
                scene = Scene(width, now, knowns, asks, now + chance.choice([0, TOP]))
                if width < rates:
                    self.assertIsNone(room(scene))
                else:
                    self.assert_best(scene)

    def assert_best(self, scene):
        told = room(scene)
        if told is None:
            return
        many, first, last = told
        self.assertTrue(scene.now <= first <= last)
        if many:
            self.assertEqual(left_of(scene, first, last), many)
        for named in windows_named(scene):
            self.assertLessEqual(left_of(scene, *named), many, named)

    def test_a_scene_is_only_asked(self):
        scene = some_scenes.made(*some_scenes.small(random.Random(85)))
        ahead = looks_of_scene(scene)
        room(scene)
        swell(scene, scene.now, scene.now + 9).append(1)
        self.assertEqual(looks_of_scene(scene), ahead)


class SwellTest(unittest.TestCase):
    def test_the_windows_at_the_doors(self):
        full = Flow(Jar(5, 1, 3))
        scene = Scene(2, 10, [], [(full, 0, 9), (full, 4, 1), (full, 20, 1)])
        self.assertEqual(swell(scene, 12, 15), [(0, 12, 2, 3), (0, 14, 2, 1), (1, 10, 2, 3)])
        self.assertEqual(swell(scene=scene, first=10, last=10), [(0, 10, 1, 3)])
        self.assertEqual(swell(scene, 10, 13), [(0, 10, 2, 3), (0, 12, 2, 1)])
        self.assertEqual(swell(scene, 10, 14), [(0, 10, 2, 3), (0, 12, 3, 1), (1, 10, 1, 3)])
        self.assertEqual(swell(scene, 31, 31), [(0, 31, 1, 3), (1, 27, 1, 3), (2, 11, 1, 3)])

    def test_small_scenes(self):
        chance = random.Random(86)
        for _ in range(200):
            numbers = some_scenes.small(chance)
            scene = some_scenes.made(*numbers)
            now = numbers[1]
            first = now + chance.randrange(12)
            last = first + chance.randrange(12)
            comings = comings_of(numbers, swell(scene, first, last), 40)
            for (jar, marks, after, wait), comes in zip(numbers[3], comings):
                inside = [first <= now + tick + after <= last for tick in range(40)]
                self.assertTrue(all(counts or not many for counts, many in zip(inside, comes)))
                most = Flow(Jar(*jar), marks).most(inside.index(True), sum(inside)) if any(inside) else 0
                self.assertEqual(sum(comes), most)


class HouseRoomTest(unittest.TestCase):
    def test_while_nothing_is_done_never_more_stand(self):
        stood_most = 0
        for seed in range(40):
            run = Run(random.Random(1300 + seed), size=7, waits=9)
            for _ in range(40):
                run.go_on()
            rooms = {lane: room(run.house.scene(lane))[0] for lane in run.lanes()}
            for _ in range(40):
                run.do("tick", run.some_comes())
                for lane in run.lanes():
                    stands = sum(row[3] for row in run.house.standing(lane))
                    self.assertLessEqual(stands, rooms[lane])
                    stood_most += stands == rooms[lane] > 0
        self.assertGreater(stood_most, 10)

    def test_a_future_in_which_so_many_stand(self):
        seen = 0
        for seed in range(60):
            for lane in ["a", "b", "mid"]:
                run = Run(random.Random(1400 + seed), size=7, waits=9)
                for _ in range(40):
                    run.go_on()
                scene = run.house.scene(lane)
                many, first, last = room(scene)
                names = [row[0] for row in run.house.stream_rows() if lane in dict(row[3])]
                rows = swell(scene, first, last)
                while run.house.now <= last:
                    now = run.house.now
                    run.do("tick", {names[place]: each for place, tick, ticks, each in rows
                                    if tick <= now < tick + ticks})
                self.assertEqual(sum(row[3] for row in run.house.standing(lane)), many)
                seen += many > 0
        self.assertGreater(seen, 50)

    def test_the_room_of_a_house(self):
        house = House()
        house.build("a", 2)
        self.assertEqual(room(house.scene("a")), (0, 0, 0))
        house.let_in("x", Jar(9, 1, 6), [("a", 9)])
        many, first, last = room(house.scene("a"))
        self.assertEqual((many, last - first), (6, 1))


if __name__ == "__main__":
    unittest.main()
