"""[6.6]: the hours of a lot."""

import unittest

from hourlanes.lots import hours_of

TOP = 10 ** 9


class HoursTest(unittest.TestCase):
    def test_ways_of_one_to_four_legs(self):
        way = [("a", 3), ("b", 1), ("c", 20), ("d", 100)]
        hours = (7, 10, 11, 31, 131)
        for legs in range(1, 5):
            for handed in [way[:legs], tuple(way[:legs])]:
                told = hours_of(7, handed)
                self.assertEqual(told, hours[:legs + 1])
                self.assertIsInstance(told, tuple)

    def test_great_numbers(self):
        self.assertEqual(hours_of(0, [("a", TOP)]), (0, TOP))
        self.assertEqual(hours_of(10 ** 40, (("a", TOP), ("b", 1))), (10 ** 40, 10 ** 40 + TOP, 10 ** 40 + TOP + 1))

    def test_by_names_and_the_way_stays(self):
        way = [("a", 3), ("b", 1)]
        self.assertEqual(hours_of(way=way, came=0), (0, 3, 4))
        self.assertEqual(way, [("a", 3), ("b", 1)])


if __name__ == "__main__":
    unittest.main()
