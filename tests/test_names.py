"""[3.1]: names and ways."""

import itertools
import unittest

from hourlanes.names import is_name, wrong_at

TOP = 10 ** 9
LANES = ["a", "b", "c", "d", "e", "f"]


class NameTest(unittest.TestCase):
    def test_one_to_eight_letters(self):
        for letters in range(12):
            self.assertIs(is_name("z" * letters), 1 <= letters <= 8)
            self.assertIs(is_name("abcdefghijkl"[:letters]), 1 <= letters <= 8)

    def test_each_sign_alone_ahead_and_behind(self):
        for sign in [chr(code) for code in range(10, 400)]:
            good = sign in "abcdefghijklmnopqrstuvwxyz"
            for text in [sign, "a" + sign, sign + "a", "abc" + sign + "def"]:
                self.assertIs(is_name(text), good, text)

    def test_other_signs(self):
        for text in ["A", "aB", "a1", "1", "a b", " a", "a ", "a\n", "\n", "a-b", "a_b", "`", "{", "", " "]:
            self.assertIs(is_name(text), False, text)

    def test_by_name(self):
        self.assertIs(is_name(text="lane"), True)
        self.assertIs(is_name(text="Lane"), False)


class WayTest(unittest.TestCase):
    def wrong(self, way, lanes=LANES):
        """Where the way is wrong, asked with lists and with tuples, by place and by name."""
        told = wrong_at(list(way), list(lanes))
        self.assertEqual(wrong_at(tuple(way), list(lanes)), told)
        self.assertEqual(wrong_at(lanes=list(lanes), way=[list(leg) for leg in way]), told)
        return told

    def test_good_ways(self):
        for legs in range(1, 5):
            for lanes in itertools.permutations(LANES, legs):
                self.assertIsNone(self.wrong([(lane, 1 + at) for at, lane in enumerate(lanes)]))

    def test_no_legs(self):
        self.assertEqual(self.wrong([]), 0)
        self.assertEqual(self.wrong([], []), 0)

    def test_a_lane_that_is_none(self):
        for place in range(4):
            way = [(lane, 5) for lane in LANES[:4]]
            way[place] = ("x", 5)
            self.assertEqual(self.wrong(way), place)
        self.assertEqual(self.wrong([("a", 1)], []), 0)
        self.assertEqual(self.wrong([("ab", 1)], ["abc", "a", "b"]), 0)

    def test_a_lane_twice(self):
        for earlier, later in itertools.combinations(range(4), 2):
            way = [(lane, 5) for lane in LANES[:4]]
            way[later] = (way[earlier][0], 6)
            self.assertEqual(self.wrong(way), later)

    def test_waits(self):
        for wait, good in [(-TOP, False), (-1, False), (0, False), (1, True), (2, True), (TOP - 1, True),
                           (TOP, True), (TOP + 1, False), (10 ** 40, False)]:
            for place in range(4):
                way = [(lane, 5) for lane in LANES[:4]]
                way[place] = (LANES[place], wait)
                self.assertEqual(self.wrong(way), None if good else place)

    def test_five_legs(self):
        self.assertEqual(self.wrong([(lane, 5) for lane in LANES[:5]]), 4)
        self.assertEqual(self.wrong([(lane, 5) for lane in LANES]), 4)
        self.assertEqual(self.wrong([("a", 5), ("b", 5), ("c", 5), ("x", 5), ("d", 5)]), 3)

    def test_the_first_place(self):
        self.assertEqual(self.wrong([("a", 1), ("a", 1), ("x", 0)]), 1)
        self.assertEqual(self.wrong([("a", 0), ("a", 1), ("x", 0)]), 0)
        self.assertEqual(self.wrong([("a", 1), ("b", 1), ("x", 0), ("x", 0), ("x", 1)]), 2)

    def test_what_is_handed_in_stays(self):
        way = [("a", 1), ("b", 2), ("a", 3)]
        lanes = ["a", "b"]
        self.assertEqual(wrong_at(way, lanes), 2)
        self.assertEqual((way, lanes), ([("a", 1), ("b", 2), ("a", 3)], ["a", "b"]))


if __name__ == "__main__":
    unittest.main()
