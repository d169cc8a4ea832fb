import itertools
import unittest

from hourlanes.flows import broken
from hourlanes.jars import Jar
from tests import walks


def wanted(numbers, comes):
    last = walks.walked(numbers, numbers[0], comes)[1]
    if last is None:
        return None
    for first in range(last, -1, -1):
        full = sum(walks.greedy(numbers, numbers[0], 0, last - first + 1))
        if sum(comes[first:last + 1]) > full:
            return (first, last)
    raise AssertionError((numbers, comes))


class BrokenTest(unittest.TestCase):
    def test_like_a_walk(self):
        for numbers in walks.JARS:
            for comes in itertools.product(range(4), repeat=5):
                self.assertEqual(broken(Jar(*numbers), list(comes)), wanted(numbers, comes))

    def test_like_a_walk_over_more_ticks(self):
        for numbers in [(5, 1, 2), (6, 1, 3), (4, 1, 2), (7, 2, 3), (3, 1, 3)]:
            for comes in itertools.product([0, 1, numbers[2]], repeat=8):
                self.assertEqual(broken(Jar(*numbers), list(comes)), wanted(numbers, comes))

    def test_none_where_all_can_come(self):
        self.assertIsNone(broken(Jar(9, 2, 5), [5, 5, 3, 2, 2, 2]))
        self.assertIsNone(broken(Jar(9, 2, 5), [0] * 60))

    def test_an_empty_list(self):
        self.assertIsNone(broken(Jar(9, 2, 5), []))

    def test_the_first_tick_that_can_not_be(self):
        self.assertEqual(broken(Jar(9, 2, 5), [5, 5, 4, 9]), (0, 2))
        self.assertEqual(broken(Jar(9, 2, 5), [6, 9]), (0, 0))
        self.assertEqual(broken(Jar(9, 2, 5), [0, 0, 6]), (2, 2))

    def test_the_greatest_first(self):
        self.assertEqual(broken(Jar(9, 2, 5), [1, 0, 0, 5, 5, 4]), (3, 5))
        self.assertEqual(broken(Jar(4, 1, 2), [2, 0, 2, 2, 2, 2]), (2, 5))
        self.assertEqual(broken(Jar(4, 1, 2), [2, 2, 0, 2, 2, 2]), (0, 5))
        self.assertEqual(broken(Jar(9, 2, 5), [5, 5, 6]), (2, 2))

    def test_far_more_than_may_come(self):
        self.assertEqual(broken(Jar(9, 2, 5), [10 ** 40]), (0, 0))
        self.assertEqual(broken(Jar(9, 2, 5), [0] * 59 + [10 ** 40]), (59, 59))
        self.assertEqual(broken(Jar(9, 2, 5), [10 ** 40] * 60), (0, 0))

    def test_a_window_over_the_whole_list(self):
        self.assertIsNone(broken(Jar(60, 1, 2), [2] * 59))
        self.assertEqual(broken(Jar(60, 1, 2), [2] * 60), (0, 59))
        self.assertEqual(broken(Jar(59, 1, 2), [2] * 60), (0, 58))

    def test_by_names_and_what_is_handed_in_stays(self):
        comes = [5, 5, 4]
        jar = Jar(9, 2, 5)
        self.assertEqual(broken(comes=comes, jar=jar), (0, 2))
        self.assertEqual((comes, jar.told()), ([5, 5, 4], (9, 2, 5)))


if __name__ == "__main__":
    unittest.main()
