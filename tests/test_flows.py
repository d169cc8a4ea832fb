import unittest

from hourlanes.errors import NoJar, NoTick, TooMany
from hourlanes.flows import Flow
from hourlanes.jars import Jar
from tests import walks


class FlowTest(unittest.TestCase):
    def test_marks_left_out_or_none_are_the_size(self):
        for flow in [Flow(Jar(7, 2, 3)), Flow(Jar(7, 2, 3), None), Flow(jar=Jar(7, 2, 3), marks=None)]:
            self.assertEqual(flow.marks, 7)
            self.assertEqual(flow.jar, Jar(7, 2, 3))

    def test_marks_from_nought_to_the_size(self):
        for marks in range(8):
            self.assertEqual(Flow(Jar(7, 2, 3), marks).marks, marks)
        self.assertEqual(Flow(marks=0, jar=Jar(7, 2, 3)).marks, 0)

    def test_other_marks_are_refused(self):
        for marks in [-1, 8, -10 ** 40, 10 ** 40]:
            with self.assertRaises(NoJar):
                Flow(Jar(7, 2, 3), marks)

    def test_may_is_bounded_by_mouth_and_marks(self):
        self.assertEqual([Flow(Jar(7, 2, 3), marks).may() for marks in range(8)], [0, 1, 2, 3, 3, 3, 3, 3])

    def test_come_over_several_ticks(self):
        flow = Flow(Jar(7, 2, 3))
        self.assertEqual([flow.come(many) for many in [3, 3, 3, 1, 0, 0, 2]], [6, 5, 4, 5, 7, 7, 7])
        self.assertEqual(flow.marks, 7)

    def test_come_tells_the_marks_and_keeps_them(self):
        flow = Flow(Jar(7, 2, 3), 1)
        self.assertEqual(flow.come(1), 2)
        self.assertEqual((flow.marks, flow.may()), (2, 2))
        self.assertEqual(flow.come(many=2), 2)
        self.assertEqual(flow.come(), 4)
        self.assertEqual((flow.marks, flow.may()), (4, 3))

    def test_come_like_a_walk(self):
        for numbers in walks.JARS:
            for marks in range(numbers[0] + 1):
                for many in range(-2, numbers[0] + 3):
                    flow = Flow(Jar(*numbers), marks)
                    wanted = walks.behind(numbers, marks, many)
                    if wanted is None:
                        self.check_refused(flow, many)
                    else:
                        self.assertEqual(flow.come(many), wanted)
                        self.assertEqual(flow.marks, wanted)

    def check_refused(self, flow, many):
        marks, bound = flow.marks, flow.may()
        with self.assertRaises(TooMany) as caught:
            flow.come(many)
        self.assertEqual((caught.exception.name, caught.exception.bound), ("", bound))
        self.assertEqual((flow.marks, flow.may()), (marks, bound))

    def test_come_refuses_one_more_than_may_and_below_nought(self):
        for flow in [Flow(Jar(7, 2, 3)), Flow(Jar(7, 2, 3), 2), Flow(Jar(7, 2, 3), 0)]:
            for many in [flow.may() + 1, 10 ** 40, -1, -10 ** 40]:
                self.check_refused(flow, many)
            flow.come(flow.may())

    def test_ahead(self):
        flow = Flow(Jar(9, 2, 5), 3)
        self.assertEqual([flow.ahead(ticks) for ticks in range(6)], [3, 5, 7, 9, 9, 9])
        self.assertEqual(flow.ahead(ticks=10 ** 40), 9)
        self.assertEqual(flow.marks, 3)

    def test_ahead_where_the_rate_does_not_fill_up_evenly(self):
        self.assertEqual([Flow(Jar(8, 3, 5), 0).ahead(ticks) for ticks in range(5)], [0, 3, 6, 8, 8])
        self.assertEqual([Flow(Jar(10 ** 9, 1, 5), 0).ahead(10 ** 9 + step) for step in [-1, 0, 1]],
                         [10 ** 9 - 1, 10 ** 9, 10 ** 9])

    def test_ahead_like_a_walk(self):
        for numbers in walks.JARS:
            for marks in range(numbers[0] + 1):
                for ticks in range(8):
                    wanted, wrong = walks.walked(numbers, marks, [0] * ticks)
                    self.assertEqual(Flow(Jar(*numbers), marks).ahead(ticks), wanted)

    def test_ahead_refuses_ticks_below_nought(self):
        flow = Flow(Jar(9, 2, 5), 3)
        for ticks in [-1, -10 ** 40]:
            with self.assertRaises(NoTick):
                flow.ahead(ticks)
        self.assertEqual(flow.marks, 3)

    def test_flows_of_one_jar_do_not_hang_together(self):
        jar = Jar(7, 2, 3)
        one, other = Flow(jar), Flow(jar)
        one.come(3)
        self.assertEqual((one.marks, other.marks, jar.told()), (6, 7, (7, 2, 3)))


if __name__ == "__main__":
    unittest.main()
