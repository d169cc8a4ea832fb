import itertools
import unittest

from hourlanes.flows import Flow
from hourlanes.jars import Jar
from tests import walks

LONG = 10 ** 20


def all_rows():
    """Rows of one and of two, wrong ones among them, over few ticks."""
    some = list(itertools.product(range(-1, 3), range(-1, 4), range(-1, 5)))
    for row in some:
        yield [row]
    for ahead in itertools.product(range(2), range(1, 4), range(1, 5)):
        for row in itertools.product(range(-1, 6), range(3), range(5)):
            yield [ahead, row]


class FitsTest(unittest.TestCase):
    def test_like_a_walk(self):
        for numbers in [each for each in walks.JARS if each[0] < 5]:
            for marks in range(numbers[0] + 1):
                flow = Flow(Jar(*numbers), marks)
                for rows in all_rows():
                    comes = walks.comes_of(rows)
                    wanted = comes is not None and walks.walked(numbers, marks, comes)[1] is None
                    self.assertIs(flow.fits(rows), wanted, (numbers, marks, rows))
                self.assertEqual(flow.marks, marks)

    def test_every_way_to_come_like_a_walk(self):
        for numbers in [(3, 1, 2), (4, 2, 3), (2, 1, 1), (3, 2, 2)]:
            for marks in range(numbers[0] + 1):
                flow = Flow(Jar(*numbers), marks)
                for comes in itertools.product(range(4), repeat=5):
                    wanted = walks.walked(numbers, marks, comes)[1] is None
                    self.assertIs(flow.fits(walks.rows_of(comes)), wanted)

    def test_no_rows(self):
        self.assertIs(Flow(Jar(9, 2, 5)).fits([]), True)
        self.assertIs(Flow(Jar(9, 2, 5), 0).fits(rows=[]), True)

    def test_rows_next_to_each_other_and_apart(self):
        flow = Flow(Jar(9, 2, 5))
        self.assertIs(flow.fits([(0, 2, 5), (2, 1, 3)]), True)
        self.assertIs(flow.fits([(0, 2, 5), (2, 1, 4)]), False)
        self.assertIs(flow.fits([(0, 2, 5), (3, 1, 5)]), True)
        self.assertIs(flow.fits([(0, 2, 5), (3, 2, 5)]), False)
        self.assertIs(flow.fits([(0, 2, 5), (5, 2, 5)]), True)

    def test_rows_out_of_order_or_over_one_another(self):
        flow = Flow(Jar(9, 2, 5))
        self.assertIs(flow.fits([(3, 1, 1), (0, 1, 1)]), False)
        self.assertIs(flow.fits([(0, 3, 1), (2, 1, 1)]), False)
        self.assertIs(flow.fits([(0, 3, 1), (3, 1, 1)]), True)
        self.assertIs(flow.fits([(0, 1, 1), (0, 1, 1)]), False)

    def test_first_ticks_or_many_that_are_none(self):
        flow = Flow(Jar(9, 2, 5))
        for row in [(-1, 1, 1), (-LONG, 1, 1), (-1, 3, 1), (0, 0, 1), (0, -1, 1), (0, 1, 0), (0, 1, -1),
                    (0, -LONG, 1), (0, 1, -LONG), (0, LONG, 0)]:
            self.assertIs(flow.fits([row]), False)
            self.assertIs(flow.fits([(0, 1, 1), (row[0] + 1, *row[1:])]), False)
            self.assertIs(flow.fits([row, (5, 1, 1)]), False)

    def test_one_piece_more_than_can_come(self):
        flow = Flow(Jar(9, 2, 5), 4)
        self.assertIs(flow.fits([(0, 1, 4)]), True)
        self.assertIs(flow.fits([(0, 1, 5)]), False)
        self.assertIs(flow.fits([(1, 1, 5)]), True)
        self.assertIs(flow.fits([(1, 1, 6)]), False)
        self.assertIs(flow.fits([(LONG, 2, 5), (LONG + 2, 1, 3)]), True)
        self.assertIs(flow.fits([(LONG, 2, 5), (LONG + 2, 1, 4)]), False)
        self.assertIs(flow.fits([(0, 1, 10 ** 40)]), False)

    def test_more_than_the_mouth(self):
        self.assertIs(Flow(Jar(9, 2, 2)).fits([(0, LONG, 2)]), True)
        self.assertIs(Flow(Jar(9, 2, 2)).fits([(0, 1, 3)]), False)

    def test_long_rows(self):
        flow = Flow(Jar(9, 2, 5))
        self.assertIs(flow.fits([(0, LONG, 2)]), True)
        self.assertIs(flow.fits([(0, LONG, 1), (LONG, 2, 5)]), True)
        self.assertIs(flow.fits([(0, LONG, 1), (LONG, 3, 5)]), False)
        self.assertIs(flow.fits([(0, LONG, 3)]), False)
        self.assertIs(flow.fits([(10 ** 40, 10 ** 40, 2)]), True)
        self.assertIs(flow.fits([(10 ** 40, 10 ** 40, 3)]), False)
        self.assertIs(Flow(Jar(9, 2, 5), 1).fits([(0, LONG, 2)]), False)
        self.assertIs(Flow(Jar(9, 2, 5), 1).fits([(1, LONG, 2)]), True)

    def test_a_row_that_falls_for_just_as_long_as_it_can(self):
        top = 10 ** 9
        self.assertIs(Flow(Jar(top, 1, 2)).fits([(0, top - 1, 2)]), True)
        self.assertIs(Flow(Jar(top, 1, 2)).fits([(0, top, 2)]), False)

    def test_long_rows_parted_in_two(self):
        flow = Flow(Jar(9, 2, 5))
        for part in [1, 7, LONG // 2, LONG - 1]:
            for many in [1, 2]:
                self.assertIs(flow.fits([(3, part, many), (3 + part, LONG - part, many)]), True)
            self.assertIs(flow.fits([(3, part, 3), (3 + part, LONG - part, 3)]), False)
            self.assertIs(flow.fits([(3, part, 1), (3 + part, LONG - part, 1), (3 + LONG, 1, 5)]), True)

    def test_what_is_handed_in_and_the_flow_stay(self):
        flow = Flow(Jar(9, 2, 5), 8)
        rows = [(0, 2, 2), (2, 1, 5), (4, 1, 1)]
        flow.fits(rows)
        self.assertEqual(rows, [(0, 2, 2), (2, 1, 5), (4, 1, 1)])
        self.assertEqual((flow.marks, flow.may()), (8, 5))


if __name__ == "__main__":
    unittest.main()
