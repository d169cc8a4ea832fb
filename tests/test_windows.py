import unittest

from hourlanes.errors import NoTick
from hourlanes.flows import Flow
from hourlanes.jars import Jar
from tests import walks

LONG = 10 ** 20
LONGEST = 10 ** 40


def together(rows):
    return sum(ticks * many for first, ticks, many in rows)


class WindowTest(unittest.TestCase):
    def test_most_and_bursts_like_a_walk(self):
        for numbers in walks.JARS:
            for marks in range(numbers[0] + 1):
                for after in range(5):
                    for ticks in range(8):
                        comes = walks.greedy(numbers, marks, after, ticks)
                        flow = Flow(Jar(*numbers), marks)
                        self.assertEqual(flow.most(after, ticks), sum(comes))
                        self.assertEqual(flow.bursts(after, ticks), walks.rows_of(comes))
                        self.assertEqual(flow.marks, marks)

    def test_no_other_way_brings_more(self):
        for numbers in walks.JARS:
            for marks in range(numbers[0] + 1):
                for after in range(4):
                    for ticks in range(5):
                        wanted = walks.best(numbers, marks, after, ticks)
                        self.assertEqual(Flow(Jar(*numbers), marks).most(after, ticks), wanted)

    def test_a_window_by_hand(self):
        flow = Flow(Jar(10, 2, 5))
        self.assertEqual(flow.bursts(0, 6), [(0, 2, 5), (2, 1, 4), (3, 3, 2)])
        self.assertEqual(flow.most(0, 6), 20)
        self.assertEqual(flow.bursts(after=3, ticks=2), [(3, 2, 5)])
        self.assertEqual(flow.most(ticks=2, after=3), 10)

    def test_ticks_in_which_nothing_may_come_are_in_no_row(self):
        flow = Flow(Jar(10, 2, 5), 0)
        self.assertEqual(flow.bursts(0, 1), [])
        self.assertEqual(flow.most(0, 1), 0)
        self.assertEqual(flow.bursts(0, 3), [(1, 2, 2)])
        self.assertEqual(flow.most(0, 3), 4)

    def test_the_fewest_rows(self):
        self.assertEqual(Flow(Jar(8, 2, 5), 2).bursts(0, 9), [(0, 9, 2)])
        self.assertEqual(Flow(Jar(8, 2, 5)).bursts(0, 9), [(0, 2, 5), (2, 7, 2)])
        self.assertEqual(Flow(Jar(8, 5, 5)).bursts(0, 9), [(0, 9, 5)])
        self.assertEqual(Flow(Jar(8, 5, 5), 3).bursts(0, 9), [(0, 1, 3), (1, 8, 5)])

    def test_no_ticks(self):
        for ticks in [0, -1, -LONGEST]:
            for after in [0, 1, LONGEST]:
                self.assertEqual(Flow(Jar(10, 2, 5)).most(after, ticks), 0)
                self.assertEqual(Flow(Jar(10, 2, 5)).bursts(after, ticks), [])

    def test_after_below_nought_is_refused_whatever_ticks_is(self):
        flow = Flow(Jar(10, 2, 5), 4)
        for after in [-1, -LONGEST]:
            for ticks in [-LONGEST, -1, 0, 1, 5, LONGEST]:
                with self.assertRaises(NoTick):
                    flow.most(after, ticks)
                with self.assertRaises(NoTick):
                    flow.bursts(after, ticks)
        self.assertEqual(flow.marks, 4)

    def test_long_windows(self):
        flow = Flow(Jar(10, 2, 5))
        for ticks in [LONG, LONGEST]:
            self.assertEqual(flow.bursts(0, ticks), [(0, 2, 5), (2, 1, 4), (3, ticks - 3, 2)])
            self.assertEqual(flow.most(0, ticks), 14 + 2 * (ticks - 3))

    def test_long_windows_begun_late(self):
        flow = Flow(Jar(10, 2, 5), 0)
        for after in [LONG, LONGEST]:
            for ticks in [1, LONG, LONGEST]:
                rows = flow.bursts(after, ticks)
                self.assertEqual(rows[0][0], after)
                self.assertEqual(sum(rows[-1][:2]), after + ticks)
                self.assertEqual(together(rows), flow.most(after, ticks))
                self.assertEqual(flow.most(after, ticks), min(5 * ticks, 10 + 2 * (ticks - 1)))

    def test_long_windows_of_great_jars(self):
        top = 10 ** 9
        flow = Flow(Jar(top, 1, 2))
        self.assertEqual(flow.bursts(0, LONG), [(0, top - 1, 2), (top - 1, LONG - top + 1, 1)])
        self.assertEqual(flow.most(0, LONG), top - 1 + LONG)
        flow = Flow(Jar(top, top, top), 1)
        self.assertEqual(flow.bursts(0, LONG), [(0, 1, 1), (1, LONG - 1, top)])
        self.assertEqual(flow.most(0, LONG), 1 + (LONG - 1) * top)

    def test_the_list_is_the_askers_own(self):
        flow = Flow(Jar(10, 2, 5))
        rows = flow.bursts(0, 6)
        rows.clear()
        self.assertEqual(flow.bursts(0, 6), [(0, 2, 5), (2, 1, 4), (3, 3, 2)])
        none = flow.bursts(0, 0)
        none.append((0, 1, 1))
        self.assertEqual(flow.bursts(0, 0), [])
        self.assertEqual(flow.marks, 10)

    def test_bursts_fit(self):
        for numbers in [(10, 2, 5), (8, 2, 5), (9, 3, 3), (1, 1, 1), (10 ** 9, 7, 1000)]:
            for marks in [0, 1, numbers[0]]:
                for after in [0, 1, LONG]:
                    for ticks in [1, 2, 10, LONG]:
                        flow = Flow(Jar(*numbers), marks)
                        self.assertTrue(flow.fits(flow.bursts(after, ticks)))


if __name__ == "__main__":
    unittest.main()
