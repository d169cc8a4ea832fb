"""[4.1] and [4.2]: scenes."""

import random
import unittest

from hourlanes.flows import Flow
from hourlanes.jars import Jar
from hourlanes.scenes import Scene
from tests import some_scenes, walks

HUGE = 10 ** 40
KNOWNS = [(5, 7, 2), (6, 20, 9), (5, 6, 1)]


def asks():
    return [(Flow(Jar(9, 2, 5)), 3, 4), (Flow(Jar(6, 1, 2), 1), 0, 1)]


def ask_numbers(scene):
    return [(flow.jar.told(), flow.marks, after, wait) for flow, after, wait in scene.ask_rows()]


def everything(scene):
    return (scene.width, scene.now, scene.opens, scene.known_rows(), ask_numbers(scene))


class NeedTest(unittest.TestCase):
    def test_against_a_walk_through_all_ways_to_come(self):
        chance = random.Random(21)
        for _ in range(80):
            numbers = some_scenes.small(chance)
            scene = some_scenes.made(*numbers)
            width, now, knowns, streams, opens = numbers
            for first in range(now, now + 12, chance.randrange(1, 4)):
                for end in range(first + 1, first + 14, chance.randrange(1, 4)):
                    wanted = walks.needed(now, knowns, streams, first, end)
                    self.assertEqual(scene.need(first, end), wanted, (numbers, first, end))

    def test_known_things_by_come_and_hour(self):
        scene = Scene(3, 5, KNOWNS, [])
        for first, end, wanted in [(5, 20, 12), (5, 6, 1), (5, 7, 3), (5, 19, 3), (6, 20, 9), (6, 19, 0), (7, 99, 0)]:
            self.assertEqual(scene.need(first, end), wanted)

    def test_windows_of_no_ticks_or_fewer(self):
        scene = Scene(3, 10, [], [(Flow(Jar(9, 2, 5)), 3, 4)])
        for first, end, wanted in [(10, 11, 0), (10, 16, 0), (10, 17, 5), (10, 18, 10), (13, 17, 5), (14, 17, 0),
                                   (14, 18, 5), (15, 18, 0), (30, 31, 0), (30, 33, 0), (30, 34, 5)]:
            self.assertEqual(scene.need(first, end), wanted, (first, end))

    def test_a_flow_that_fills_ahead_of_the_stretch(self):
        scene = Scene(3, 10, [], [(Flow(Jar(9, 2, 5), 0), 0, 1)])
        for first, end, wanted in [(10, 11, 0), (10, 12, 2), (11, 12, 2), (12, 13, 4), (13, 14, 5), (13, 15, 8),
                                   (15, 17, 10), (99, 102, 13)]:
            self.assertEqual(scene.need(first, end), wanted, (first, end))

    def test_far_away_and_long(self):
        scene = Scene(3, HUGE, [(HUGE, 2 * HUGE, HUGE)], [(Flow(Jar(9, 2, 5), 0), HUGE, 4)])
        self.assertEqual(scene.need(HUGE, 2 * HUGE), HUGE)
        self.assertEqual(scene.need(HUGE, 2 * HUGE + 4), HUGE)
        self.assertEqual(scene.need(HUGE, 2 * HUGE + 5), HUGE + 2)
        self.assertEqual(scene.need(HUGE + 1, 2 * HUGE + 5), 2)
        self.assertEqual(scene.need(3 * HUGE, 3 * HUGE + 3), 0)
        self.assertEqual(scene.need(3 * HUGE, 3 * HUGE + 4), 5)
        self.assertEqual(scene.need(3 * HUGE, 4 * HUGE), 9 + 2 * (HUGE - 4))
        top = 10 ** 9
        scene = Scene(top, 0, [], [(Flow(Jar(top, 1, 2)), top, top)] * 9)
        self.assertEqual(scene.need(0, HUGE), 9 * (top + HUGE - 2 * top))
        self.assertEqual(scene.need(HUGE, HUGE + 2 * top), 9 * (top + top))

    def test_by_names(self):
        scene = Scene(3, 5, KNOWNS, asks())
        self.assertEqual(scene.need(end=20, first=5), scene.need(5, 20))
        self.assertEqual(scene.holds(end=20, first=5), 45)


class HoldsTest(unittest.TestCase):
    def test_against_a_walk(self):
        for opens in range(12):
            scene = Scene(3, 2, [], [], opens)
            for first in range(2, 10):
                for end in range(first + 1, 12):
                    self.assertEqual(scene.holds(first, end), 3 * walks.open_ticks(first, end, opens))

    def test_opens_below_within_and_above(self):
        for opens, wanted in [(0, 60), (10, 60), (11, 54), (19, 6), (20, 0), (21, 0), (HUGE, 0)]:
            self.assertEqual(Scene(6, 10, [], [], opens).holds(10, 20), wanted)
        self.assertEqual(Scene(6, 10, [], []).holds(10, 20), 60)

    def test_long(self):
        self.assertEqual(Scene(10 ** 9, 0, [], []).holds(0, HUGE), HUGE * 10 ** 9)
        self.assertEqual(Scene(7, 0, [], [], HUGE).holds(5, HUGE + 2), 14)


class SceneTest(unittest.TestCase):
    def test_fields(self):
        scene = Scene(3, 5, KNOWNS, asks(), 8)
        self.assertEqual((scene.width, scene.now, scene.opens), (3, 5, 8))
        self.assertEqual(Scene(3, 5, KNOWNS, asks()).opens, 0)
        by_names = Scene(opens=8, asks=asks(), knowns=KNOWNS, now=5, width=3)
        self.assertEqual(everything(by_names), everything(scene))

    def test_rows_as_handed_in(self):
        scene = Scene(3, 5, KNOWNS, asks(), 8)
        self.assertEqual(scene.known_rows(), KNOWNS)
        self.assertEqual(ask_numbers(scene), [((9, 2, 5), 9, 3, 4), ((6, 1, 2), 1, 0, 1)])
        self.assertTrue(all(isinstance(row, tuple) for row in scene.known_rows() + scene.ask_rows()))
        empty = Scene(3, 5, [], [])
        self.assertEqual((empty.known_rows(), empty.ask_rows()), ([], []))

    def test_with_ask(self):
        scene = Scene(3, 5, KNOWNS, asks(), 8)
        ahead = everything(scene)
        flow = Flow(Jar(4, 1, 1), 2)
        other = scene.with_ask(flow=flow, after=7, wait=6)
        wanted = [((9, 2, 5), 9, 3, 4), ((6, 1, 2), 1, 0, 1), ((4, 1, 1), 2, 7, 6)]
        self.assertEqual(everything(other), (3, 5, 8, KNOWNS, wanted))
        flow.come(1)
        flow.come(1)
        self.assertEqual(ask_numbers(other), wanted)
        self.assertEqual(everything(scene), ahead)

    def test_with_width(self):
        scene = Scene(3, 5, KNOWNS, asks(), 8)
        ahead = everything(scene)
        self.assertEqual(everything(scene.with_width(width=11)), (11, *ahead[1:]))
        self.assertEqual(everything(scene), ahead)

    def test_with_opens(self):
        scene = Scene(3, 5, KNOWNS, asks(), 8)
        ahead = everything(scene)
        self.assertEqual(everything(scene.with_opens(opens=HUGE)), (3, 5, HUGE, *ahead[3:]))
        self.assertEqual(everything(scene), ahead)
        self.assertEqual(scene.holds(5, 10), 6)

    def test_what_is_handed_in_may_be_changed_later(self):
        knowns, streams = list(KNOWNS), asks()
        scene = Scene(3, 5, knowns, streams, 8)
        ahead, need = everything(scene), scene.need(5, 30)
        streams[0][0].come(5)
        streams[1][0].come(1)
        knowns.append((5, 6, 100))
        streams.pop()
        self.assertEqual((everything(scene), scene.need(5, 30)), (ahead, need))

    def test_what_is_handed_in_stays(self):
        knowns, streams = list(KNOWNS), asks()
        scene = Scene(3, 5, knowns, streams, 8)
        scene.need(5, 30)
        scene.with_ask(streams[0][0], 1, 1).need(5, 30)
        self.assertEqual(knowns, KNOWNS)
        self.assertEqual([flow.marks for flow, after, wait in streams], [9, 1])

    def test_what_is_told_may_be_changed(self):
        scene = Scene(3, 5, KNOWNS, asks(), 8)
        ahead, need = everything(scene), scene.need(5, 30)
        scene.known_rows().clear()
        told = scene.ask_rows()
        told[0][0].come(5)
        told.clear()
        self.assertEqual((everything(scene), scene.need(5, 30)), (ahead, need))

    def test_flows_of_one_scene_do_not_hang_on_another(self):
        scene = Scene(3, 5, KNOWNS, asks(), 8)
        others = [scene.with_width(4), scene.with_opens(9), scene.with_ask(Flow(Jar(1, 1, 1)), 0, 1)]
        ahead = [ask_numbers(other) for other in others]
        for flow, after, wait in scene.ask_rows():
            flow.come(1)
        self.assertEqual([ask_numbers(other) for other in others], ahead)
        same = Flow(Jar(9, 2, 5))
        twice = Scene(3, 5, [], [(same, 0, 1), (same, 0, 1)])
        first, second = twice.ask_rows()
        first[0].come(5)
        self.assertEqual((second[0].marks, same.marks), (9, 9))


if __name__ == "__main__":
    unittest.main()
