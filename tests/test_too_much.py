"""[6.4] and [0.2] (b): TooMuch, just where a lane would be over, with a future that shows it."""

import random
import unittest

from hourlanes.errors import TooMuch
from hourlanes.futures import shown
from hourlanes.house import House
from hourlanes.jars import Jar
from hourlanes.judging import over
from tests import some_scenes
from tests.counts import all_missed, looks_of_count, plays
from tests.drawn import Run, tried


def done_on(count, row):
    """Another count on which the deed is done, whatever comes of it, and the lanes to look at, in order."""
    other = count.twin()
    word, *given = row
    if word in ("in", "turn"):
        (other.let_in if word == "in" else other.turn)(*given)
        return other, [lane for lane, wait in given[2]]
    (other.widen if word == "widen" else other.shut)(*given)
    return other, [given[0]]


class TooMuchTest(unittest.TestCase):
    def assert_shown(self, count, lanes, refusal):
        """The refusal's lane, stretch and rows, if the count is one on which the deed is done."""
        scenes = {lane: some_scenes.made(*count.scene_rows(lane)) for lane in lanes}
        self.assertEqual(refusal.lane, [lane for lane in lanes if over(scenes[lane]) is not None][0])
        scene = scenes[refusal.lane]
        self.assertTrue(scene.now <= refusal.first < refusal.end)
        self.assertGreater(scene.need(refusal.first, refusal.end), scene.holds(refusal.first, refusal.end))
        names = [name for name, numbers, marks, way in count.streams if refusal.lane in dict(way)]
        places = [(names.index(name), tick, ticks, many) for name, tick, ticks, many in refusal.rows]
        self.assertTrue(shown(scene, refusal.first, refusal.end, places))

    def led(self, run, many):
        """Many deeds are drawn, and each is judged in the test: told is how many were refused and how many not."""
        seen = {True: 0, False: 0}
        for _ in range(many):
            ahead = run.count.twin()
            row, refusal = run.go_on()
            if row[0] in ("in", "turn", "widen", "shut"):
                other, lanes = done_on(ahead, row)
                due = any(over(some_scenes.made(*other.scene_rows(lane))) for lane in lanes)
                self.assertEqual(refusal is not None, due, row)
                if due:
                    self.assert_shown(other, lanes, refusal)
                    self.assert_missed(other, refusal)
                    if row[0] == "in":
                        self.assertIn(row[1], [told[0] for told in refusal.rows])
                seen[due] += 1
            self.assertEqual(run.count.missed(), [])
        return seen

    def assert_missed(self, count, refusal):
        """If that future is played, a piece is not carried in time, though those that are due next go first."""
        if refusal.end - count.now < 300:
            self.assertIn(refusal.lane, [lane for lane, hour in plays(count, refusal.rows, refusal.end)
                                         if hour <= refusal.end])

    def test_drawn_houses_of_small_numbers(self):
        for seed in range(40):
            seen = self.led(Run(random.Random(seed), size=5, waits=7), 90)
            self.assertGreater(min(seen.values()), 2)

    def test_drawn_houses_of_great_numbers(self):
        for seed in range(12):
            seen = self.led(Run(random.Random(100 + seed), size=10 ** 9, waits=10 ** 3), 80)
            self.assertGreater(min(seen.values()), 0)

    def test_after_all_that_is_let_in_no_lane_is_over(self):
        for seed in range(30):
            run = Run(random.Random(200 + seed), size=5, waits=7)
            for _ in range(60):
                run.go_on()
                for rows in looks_of_count(run.count)["scenes"]:
                    self.assertIsNone(over(some_scenes.made(*rows)))

    def test_all_futures_of_tiny_houses(self):
        seen = 0
        for seed in range(60):
            run = Run(random.Random(300 + seed), size=3, waits=3, lanes=2)
            for _ in range(14):
                run.go_on()
            while len(run.count.streams) > 2:
                run.do("go", run.names()[0])
            seen += len(run.count.streams) * len(run.count.lots)
            self.assertFalse(all_missed(run.count, 6), seed)
        self.assertGreater(seen, 40)

    def test_the_walk_through_all_futures_finds_what_is_missed(self):
        for width, wait, missed in [(1, 2, True), (1, 3, False), (2, 1, True), (2, 2, False)]:
            run = Run(random.Random(1), lanes=0)
            run.do("build", "a", width)
            run.count.let_in("x", (3, 1, 3), [("a", wait)])
            self.assertEqual(all_missed(run.count, 6), missed, (width, wait))
            refusal = tried(run.house, "let_in", "x", Jar(3, 1, 3), [("a", wait)])
            self.assertEqual(refusal is not None, missed, (width, wait))

    def test_the_first_lane_of_the_way_comes(self):
        house = House()
        for name in ["a", "b", "c"]:
            house.build(name, 9 if name == "b" else 2)
        refusal = tried(house, "let_in", "x", Jar(9, 1, 9), [("b", 1), ("c", 1), ("a", 1)])
        self.assertEqual((refusal.lane, refusal.rows), ("c", [("x", 0, 1, 9)]))
        self.assertTrue(0 <= refusal.first < 2 <= refusal.end < 5, (refusal.first, refusal.end))
        house.let_in("x", Jar(2, 1, 1), [("b", 1)])
        self.assertEqual(tried(house, "turn", "x", Jar(9, 9, 9), [("b", 1), ("a", 9)]).lane, "a")

    def test_the_names_of_all_whose_pieces_are_needed(self):
        house = House()
        house.build("a", 3)
        house.build("b", 3)
        house.let_in("z", Jar(3, 1, 3), [("b", 2), ("a", 2)])
        house.let_in("n", Jar(3, 1, 3), [("b", 20)])
        house.let_in("y", Jar(2, 1, 2), [("a", 2)])
        refusal = tried(house, "let_in", "x", Jar(3, 1, 3), [("a", 2)])
        self.assertEqual(refusal.lane, "a")
        self.assertEqual({row[0] for row in refusal.rows}, {"x", "y", "z"})

    def test_one_lane_is_over_by_what_is_known_alone(self):
        house = House()
        house.build("a", 3)
        house.let_in("x", Jar(9, 1, 9), [("a", 4)])
        house.tick({"x": 9})
        house.let_go("x")
        refusal = tried(house, "shut", "a", 2)
        self.assertEqual((refusal.lane, refusal.first, refusal.end, refusal.rows), ("a", 1, 4, []))
        self.assertEqual(tried(house, "widen", "a", 1).rows, [])
        self.assertIsNone(tried(house, "shut", "a", 1))

    def test_rates_above_the_width(self):
        house = House()
        house.build("a", 10 ** 9)
        house.let_in("x", Jar(10 ** 9, 10 ** 9, 10 ** 9), [("a", 1)])
        refusal = tried(house, "let_in", "y", Jar(1, 1, 1), [("a", 10 ** 9)])
        self.assertIs(type(refusal), TooMuch)
        house.let_go("x")
        house.let_in("y", Jar(1, 1, 1), [("a", 10 ** 9)])
        house.let_in("x", Jar(10 ** 9 - 1, 10 ** 9 - 1, 10 ** 9 - 1), [("a", 1)])

    def test_its_rows_are_the_askers_own(self):
        house = House()
        house.build("a", 1)
        tried(house, "let_in", "x", Jar(9, 1, 9), [("a", 1)]).rows.clear()
        self.assertEqual(len(tried(house, "let_in", "x", Jar(9, 1, 9), [("a", 1)]).rows), 1)


if __name__ == "__main__":
    unittest.main()
