import unittest

from hourlanes.errors import NoJar
from hourlanes.jars import Jar

TOP = 10 ** 9


class JarTest(unittest.TestCase):
    def test_made_just_where_the_numbers_are_in_order(self):
        for size in range(-1, 6):
            for rate in range(-1, 6):
                for mouth in range(-1, 6):
                    if 1 <= rate and rate <= mouth and mouth <= size:
                        self.assertEqual(Jar(size, rate, mouth).told(), (size, rate, mouth))
                    else:
                        with self.assertRaises(NoJar):
                            Jar(size, rate, mouth)

    def test_edges_above(self):
        for numbers in [(TOP, 1, 1), (TOP, 1, TOP), (TOP, TOP, TOP), (TOP, TOP - 1, TOP)]:
            self.assertEqual(Jar(*numbers).told(), numbers)
        for numbers in [(TOP + 1, 1, 1), (TOP + 1, TOP + 1, TOP + 1), (TOP, 1, TOP + 1),
                        (TOP, TOP, TOP - 1), (TOP - 1, 1, TOP), (10 ** 40, 1, 1), (TOP, 0, TOP)]:
            with self.assertRaises(NoJar):
                Jar(*numbers)

    def test_fields(self):
        jar = Jar(9, 2, 5)
        self.assertEqual((jar.size, jar.rate, jar.mouth), (9, 2, 5))

    def test_told_is_a_tuple(self):
        self.assertIsInstance(Jar(9, 2, 5).told(), tuple)
        self.assertEqual(Jar(9, 2, 5).told(), (9, 2, 5))

    def test_by_names(self):
        self.assertEqual(Jar(mouth=5, rate=2, size=9).told(), (9, 2, 5))
        with self.assertRaises(NoJar):
            Jar(mouth=9, rate=2, size=5)

    def test_texts(self):
        self.assertEqual(str(Jar(9, 2, 5)), "9 2 5")
        self.assertEqual(repr(Jar(9, 2, 5)), "Jar(9, 2, 5)")
        self.assertEqual(str(Jar(TOP, 1, 10)), "1000000000 1 10")
        self.assertEqual(repr([Jar(TOP, 1, 10)]), "[Jar(1000000000, 1, 10)]")

    def test_equal_just_where_all_three_are(self):
        self.assertTrue(Jar(9, 2, 5) == Jar(9, 2, 5))
        self.assertFalse(Jar(9, 2, 5) != Jar(9, 2, 5))
        for other in [Jar(8, 2, 5), Jar(9, 1, 5), Jar(9, 2, 4), Jar(9, 5, 5)]:
            self.assertFalse(Jar(9, 2, 5) == other)
            self.assertTrue(Jar(9, 2, 5) != other)

    def test_equal_to_nothing_else(self):
        for other in [(9, 2, 5), [9, 2, 5], "9 2 5", "Jar(9, 2, 5)", None, 9, {}]:
            self.assertFalse(Jar(9, 2, 5) == other)
            self.assertTrue(Jar(9, 2, 5) != other)
            self.assertFalse(other == Jar(9, 2, 5))


if __name__ == "__main__":
    unittest.main()
