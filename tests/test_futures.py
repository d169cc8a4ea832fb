"""[5.1] and [5.2]: futures."""

import random
import unittest

from hourlanes.flows import Flow
from hourlanes.futures import future, shown
from hourlanes.jars import Jar
from hourlanes.judging import over
from hourlanes.scenes import Scene
from tests import some_scenes, walks

TOP = 10 ** 9
HUGE = 10 ** 40


def two_asks():
    """A scene, ahead of tick 10, of two streams and something known."""
    asks = [(Flow(Jar(9, 2, 5)), 3, 4), (Flow(Jar(6, 1, 2), 0), 0, 1)]
    return Scene(3, 10, [(12, 15, 4)], asks)


class FutureTest(unittest.TestCase):
    def test_by_hand(self):
        scene = two_asks()
        self.assertEqual(future(scene, 10, 20), [(0, 10, 2, 5), (0, 12, 1, 3), (0, 13, 1, 2), (1, 11, 9, 1)])
        self.assertEqual(future(scene, 13, 18), [(0, 10, 2, 5), (1, 13, 2, 2), (1, 15, 3, 1)])

    def test_rows_in_order_of_asks_and_ticks(self):
        chance = random.Random(41)
        for _ in range(300):
            scene = some_scenes.made(*some_scenes.small(chance))
            first = scene.now + chance.randrange(12)
            rows = future(scene, first, first + chance.randrange(1, 20))
            self.assertEqual([row[:2] for row in rows], sorted([row[:2] for row in rows]))

    def test_like_a_walk(self):
        chance = random.Random(42)
        for _ in range(300):
            width, now, knowns, asks, opens = numbers = some_scenes.small(chance)
            first = now + chance.randrange(10)
            end = first + chance.randrange(1, 16)
            wanted = []
            for place, (jar, marks, after, wait) in enumerate(asks):
                doors = [door for door in range(now, end) if walks.is_needed(door, after, wait, first, end)]
                if doors:
                    comes = walks.greedy(jar, marks, doors[0] - now, len(doors))
                    wanted += [(place, now + tick, ticks, many) for tick, ticks, many in walks.rows_of(comes)]
            self.assertEqual(future(some_scenes.made(*numbers), first, end), wanted)

    def test_they_are_what_need_counts(self):
        chance = random.Random(43)
        for _ in range(300):
            scene = some_scenes.made(*some_scenes.small(chance))
            first = scene.now + chance.randrange(10)
            end = first + chance.randrange(1, 30)
            known = sum(many for come, hour, many in scene.known_rows() if come >= first and hour <= end)
            told = sum(ticks * many for place, tick, ticks, many in future(scene, first, end))
            self.assertEqual(known + told, scene.need(first, end))

    def test_windows_of_no_ticks(self):
        scene = two_asks()
        self.assertEqual(future(scene, 10, 11), [])
        self.assertEqual(future(scene, 10, 12), [(1, 11, 1, 1)])
        self.assertEqual(future(scene, 30, 33), [(1, 30, 3, 2)])
        self.assertEqual(future(Scene(1, 0, [(0, 5, 9)], []), 0, 5), [])

    def test_far_away_and_long(self):
        scene = Scene(3, HUGE, [], [(Flow(Jar(9, 2, 5), 0), HUGE, 4)])
        self.assertEqual(future(scene, HUGE, 2 * HUGE + 4), [])
        self.assertEqual(future(scene, HUGE, 2 * HUGE + 9), [(0, HUGE + 1, 5, 2)])
        self.assertEqual(future(scene, 3 * HUGE, 4 * HUGE),
                         [(0, 2 * HUGE, 2, 5), (0, 2 * HUGE + 2, 1, 3), (0, 2 * HUGE + 3, HUGE - 6, 2)])

    def test_the_list_is_new_and_the_scene_stays(self):
        scene = two_asks()
        rows = future(first=10, end=20, scene=scene)
        rows.clear()
        self.assertEqual(len(future(scene, 10, 20)), 4)
        self.assertEqual([flow.marks for flow, after, wait in scene.ask_rows()], [9, 0])


class ShownTest(unittest.TestCase):
    def test_true_of_a_future_just_where_need_is_above_holds(self):
        chance = random.Random(44)
        seen = {True: 0, False: 0}
        for _ in range(150):
            scene = some_scenes.made(*some_scenes.small(chance))
            for first in range(scene.now, scene.now + 10):
                for end in range(first + 1, first + 16):
                    wanted = scene.need(first, end) > scene.holds(first, end)
                    seen[wanted] += 1
                    self.assertIs(shown(scene, first, end, future(scene, first, end)), wanted)
        self.assertGreater(min(seen.values()), 500)

    def test_like_a_walk_also_of_other_rows(self):
        chance = random.Random(45)
        seen = {True: 0, False: 0}
        for _ in range(3000):
            numbers = some_scenes.small(chance)
            scene = some_scenes.made(*numbers)
            first = scene.now + chance.randrange(6)
            end = first + chance.randrange(1, 14)
            found = over(scene)
            if found is not None and found[1] < 100:
                first, end = found
            rows = future(scene, first, end)
            for _ in range(chance.randrange(3)):
                rows = changed(chance, rows, len(numbers[3]), scene.now)
            width, now, knowns, asks, opens = numbers
            wanted = walks.shown_by(width, now, knowns, asks, opens, first, end, rows)
            seen[wanted] += 1
            self.assertIs(shown(scene, first, end, rows), wanted, (numbers, first, end, rows))
        self.assertGreater(min(seen.values()), 300)

    def test_a_stretch_that_is_none(self):
        scene = Scene(1, 10, [(10, 11, 99)], [(Flow(Jar(9, 2, 5)), 0, 1)])
        self.assertIs(shown(scene, 10, 11, []), True)
        for first, end in [(9, 11), (9, 12), (0, 20), (10, 10), (11, 11), (11, 10), (12, 5), (-5, -4)]:
            self.assertIs(shown(scene, first, end, []), False)
            self.assertIs(shown(scene, first, end, [(0, 10, 1, 5)]), False)

    def test_a_place_that_is_no_asks(self):
        scene = Scene(1, 10, [(10, 11, 99)], [(Flow(Jar(9, 2, 5)), 0, 1)])
        self.assertIs(shown(scene, 10, 11, [(0, 10, 1, 5)]), True)
        for place in [-1, -2, 1, 2, HUGE]:
            self.assertIs(shown(scene, 10, 11, [(place, 10, 1, 1)]), False)
            self.assertIs(shown(scene, 10, 11, [(0, 10, 1, 5), (place, 10, 1, 1)]), False)
            self.assertIs(shown(scene, 10, 11, [(place, 10, 1, 1), (0, 10, 1, 5)]), False)
        self.assertIs(shown(Scene(1, 10, [(10, 11, 99)], []), 10, 11, [(0, 10, 1, 1)]), False)

    def test_rows_that_do_not_fit(self):
        scene = Scene(1, 10, [(10, 11, 99)], [(Flow(Jar(9, 2, 5)), 0, 1), (Flow(Jar(9, 2, 5)), 0, 1)])
        for rows in [[(0, 10, 1, 6)], [(0, 10, 3, 5)], [(0, 9, 1, 1)], [(0, 10, 0, 1)], [(0, 10, 1, 0)],
                     [(0, 10, 1, -1)], [(0, 10, -1, 1)], [(0, 12, 1, 1), (0, 11, 1, 1)], [(1, 10, 2, 1), (1, 11, 1, 1)],
                     [(0, 10, 1, 1), (1, 10, 1, 6)], [(0, 10, HUGE, 3)], [(0, 0, 1, 1)]]:
            self.assertIs(shown(scene, 10, 11, rows), False, rows)

    def test_each_asks_rows_are_asked_in_their_own_order(self):
        scene = Scene(1, 10, [(10, 11, 99)], [(Flow(Jar(9, 2, 5)), 0, 1), (Flow(Jar(9, 2, 5)), 0, 1)])
        rows = [(1, 15, 1, 5), (0, 10, 1, 5), (1, 16, 1, 5), (0, 11, 1, 5)]
        self.assertIs(shown(scene, 10, 11, rows), True)

    def test_ticks_are_counted_from_now(self):
        scene = Scene(4, 10, [], [(Flow(Jar(9, 2, 5), 3), 0, 1)])
        self.assertIs(shown(scene, 11, 12, [(0, 11, 1, 5)]), True)
        self.assertIs(shown(scene, 10, 11, [(0, 10, 1, 5)]), False)
        self.assertIs(shown(scene, 11, 12, [(0, 1, 1, 5)]), False)

    def test_pieces_outside_the_window_do_not_count(self):
        scene = Scene(4, 10, [], [(Flow(Jar(50, 1, 5)), 2, 3)])
        self.assertIs(shown(scene, 14, 17, [(0, 12, 1, 5)]), False)
        wide = Scene(1, 10, [], [(Flow(Jar(50, 1, 5)), 2, 3)])
        self.assertIs(shown(wide, 14, 17, [(0, 12, 1, 5)]), True)
        self.assertIs(shown(wide, 14, 17, [(0, 12, 1, 4)]), True)
        self.assertIs(shown(wide, 14, 17, [(0, 12, 1, 3)]), False)
        for tick in [10, 11, 13, 14, 15, HUGE]:
            self.assertIs(shown(wide, 14, 17, [(0, tick, 1, 5)]), False)
        self.assertIs(shown(wide, 14, 17, [(0, 10, 9, 4)]), True)
        self.assertIs(shown(wide, 14, 17, [(0, 10, 9, 3)]), False)
        self.assertIs(shown(wide, 14, 16, [(0, 10, 9, 5)]), False)
        self.assertIs(shown(wide, 14, 18, [(0, 10, 9, 2)]), False)
        self.assertIs(shown(wide, 14, 18, [(0, 10, 9, 3)]), True)

    def test_known_pieces_that_need_counts_and_no_others(self):
        for knowns, wanted in [([(12, 15, 4)], True), ([(12, 15, 3)], False), ([(11, 15, 4)], False),
                               ([(12, 16, 4)], False), ([(12, 14, 2), (14, 15, 2)], True), ([], False)]:
            self.assertIs(shown(Scene(1, 10, knowns, []), 12, 15, []), wanted)

    def test_too_few_by_one_piece(self):
        chance = random.Random(46)
        seen = 0
        for _ in range(2000):
            scene = some_scenes.made(*some_scenes.small(chance))
            found = over(scene)
            if found is None:
                continue
            rows = future(scene, *found)
            self.assertIs(shown(scene, *found, rows), True)
            if rows and scene.need(*found) == scene.holds(*found) + 1:
                place, tick, ticks, many = rows[-1]
                fewer = [(place, tick, ticks - 1, many), (place, tick + ticks - 1, 1, many - 1)]
                rows[-1:] = [row for row in fewer if row[2] > 0 and row[3] > 0]
                self.assertIs(shown(scene, *found, rows), False)
                seen += 1
        self.assertGreater(seen, 50)

    def test_no_rows(self):
        self.assertIs(shown(Scene(1, 0, [], []), 0, 1, []), False)
        self.assertIs(shown(Scene(1, 0, [(0, 1, 1)], []), 0, 1, []), False)
        self.assertIs(shown(Scene(1, 0, [(0, 1, 2)], []), 0, 1, []), True)

    def test_a_shut_lane_holds_nothing(self):
        scene = Scene(TOP, 0, [(0, 5, 1)], [], 5)
        self.assertIs(shown(scene, 0, 5, []), True)
        self.assertIs(shown(scene.with_opens(4), 0, 5, []), False)

    def test_great_numbers(self):
        scene = Scene(TOP, HUGE, [], [(Flow(Jar(TOP, TOP, TOP), 0), HUGE, TOP), (Flow(Jar(1, 1, 1)), 0, TOP)])
        found = over(scene)
        rows = future(scene, *found)
        self.assertIs(shown(scene, *found, rows), True)
        scene = Scene(1, 0, [(0, HUGE, HUGE - 5)], [(Flow(Jar(5, 1, 5)), 0, HUGE - 1)])
        self.assertIs(shown(scene, 0, HUGE, [(0, 0, 1, 5)]), False)
        self.assertIs(shown(scene, 0, HUGE, [(0, 0, 1, 5), (0, 1, 1, 1)]), True)
        self.assertIs(shown(scene, 0, HUGE, [(0, 0, 1, 5), (0, 2, HUGE, 1)]), False)

    def test_by_names_and_what_is_handed_in_stays(self):
        scene = two_asks()
        rows = future(scene, 10, 20)
        ahead = list(rows)
        shown(rows=rows, end=20, first=10, scene=scene)
        self.assertEqual(rows, ahead)
        self.assertEqual([flow.marks for flow, after, wait in scene.ask_rows()], [9, 0])


def changed(chance, rows, asks, now):
    """The rows with one of them left out, changed or put in."""
    rows = list(rows)
    at = chance.randrange(len(rows) + 1)
    kind = chance.randrange(4)
    if kind == 0 or at == len(rows):
        rows.insert(at, (chance.randrange(-1, asks + 1), now + chance.randrange(-1, 9), chance.randrange(4),
                         chance.randrange(4)))
    elif kind == 1:
        del rows[at]
    else:
        row = list(rows[at])
        row[chance.randrange(1, 4)] += chance.choice([-1, 1])
        rows[at] = tuple(row)
    return rows


if __name__ == "__main__":
    unittest.main()
