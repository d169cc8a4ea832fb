"""[9.2] and [0.2] (e): books that lead to the same house again, and the first wrong row of others."""

import random
import unittest

from hourlanes.books import again, looked
from hourlanes.errors import NoBook
from hourlanes.house import House
from hourlanes.jars import Jar
from tests.counts import looks
from tests.drawn import Run
from tests.spoils import spoilt

TOP = 10 ** 9


def drawn_book(seed, many=60, size=6, waits=8):
    run = Run(random.Random(seed), size=size, waits=waits)
    for _ in range(many):
        run.go_on()
    return run.house


def first_wrong(book):
    """The first row that a house, led on by it, refuses or keeps otherwise."""
    house = House()
    for number, row in enumerate(book):
        try:
            do(house, row)
        except (ValueError, KeyError):
            return number
        if house.book() != book[:number + 1]:
            return number
    return None


def do(house, row):
    word = row[0]
    if word in ("in", "turn"):
        (house.let_in if word == "in" else house.turn)(row[1], Jar(*row[2]), row[3])
    elif word == "go":
        house.let_go(row[1])
    elif word == "tick":
        house.tick(dict(row[1]))
    else:
        {"build": house.build, "widen": house.widen, "shut": house.shut}[word](row[1], row[2])


class BooksTest(unittest.TestCase):
    def assert_wrong(self, book, number):
        ahead = list(book)
        self.assertEqual(looked(book), number, book[number] if number is not None else None)
        self.assertEqual(book, ahead)
        with self.assertRaises(NoBook) as caught:
            again(book)
        self.assertEqual(caught.exception.row, number)

    def test_books_of_drawn_runs(self):
        for seed in range(50):
            house = drawn_book(1500 + seed, size=[6, TOP][seed % 2])
            book = house.book()
            self.assertIsNone(looked(book))
            other = again(book)
            self.assertIsInstance(other, House)
            self.assertEqual(looks(other), looks(house))

    def test_the_house_goes_on_alike(self):
        for seed in range(10):
            run = Run(random.Random(1600 + seed))
            for _ in range(50):
                run.go_on()
            other = again(run.house.book())
            for _ in range(30):
                comes = run.some_comes()
                self.assertEqual(other.tick(comes), run.house.tick(comes))
            self.assertEqual(looks(other), looks(run.house))

    def test_long_books(self):
        run = Run(random.Random(1700), size=6, waits=8)
        while len(run.house.book()) < 400:
            run.go_on()
        self.assertIsNone(looked(run.house.book()))
        self.assertEqual(looks(again(run.house.book())), looks(run.house))

    def test_an_empty_book(self):
        self.assertIsNone(looked(book=[]))
        self.assertEqual(again(book=[]).book(), [])

    def test_nothing_hangs_on_the_book_that_was_handed_in(self):
        book = drawn_book(1).book()
        ahead = list(book)
        house = again(book)
        house.tick()
        self.assertEqual(book, ahead)
        book.clear()
        self.assertEqual(house.book()[:-1], ahead)

    def test_one_row_is_spoilt(self):
        chance = random.Random(91)
        seen = {}
        for seed in range(60):
            book = drawn_book(1800 + seed, many=25).book()
            for _ in range(25):
                number = chance.randrange(len(book))
                word, wrong = spoilt(chance, book, number)
                expected = first_wrong(wrong)
                self.assertEqual(looked(wrong), expected, (word, wrong))
                if expected is not None:
                    self.assert_wrong(wrong, expected)
                    self.assertGreaterEqual(expected, number)
                    seen[word] = seen.get(word, 0) + 1
        self.assertGreater(min(seen.values()), 10, seen)
        self.assertGreater(len(seen), 8, seen)

    def test_each_way_to_be_wrong(self):
        book = [("build", "a", 3), ("build", "b", 2), ("in", "x", (6, 1, 3), (("a", 4), ("b", 5))),
                ("in", "y", (2, 1, 2), (("b", 9),)),
                ("tick", (("x", 3), ("y", 1)), (("a", "x", 0, 3), ("b", "y", 0, 1)), ()),
                ("go", "y", 1), ("widen", "a", 4), ("shut", "b", 2), ("turn", "x", (3, 1, 1), (("a", 4),)),
                ("tick", (("x", 1),), (("a", "x", 1, 1),), ())]
        self.assertIsNone(looked(book))
        rows = {
            0: [("build", "A", 3), ("build", "a", 0), ("build", "a", TOP + 1), ("bild", "a", 3), ("", "a", 3),
                ("tick", (("x", 1),), (), ()), ("go", "a", 0), ("widen", "a", 3), ("shut", "a", 3)],
            1: [("build", "a", 2), ("lane", "b", 2), ("in", "b", (1, 1, 1), (("b", 1),))],
            2: [("in", "x", (6, 1, 7), (("a", 4), ("b", 5))), ("in", "x", (0, 1, 3), (("a", 4), ("b", 5))),
                ("in", "x", (6, 1, 3), ()), ("in", "x", (6, 1, 3), (("a", 4), ("a", 5))),
                ("in", "x", (60, 1, 30), (("a", 4), ("b", 5))), ("in", "", (6, 1, 3), (("a", 4), ("b", 5))),
                ("turn", "x", (6, 1, 3), (("a", 4), ("b", 5))), ("out", "x")],
            4: [("tick", (("y", 1), ("x", 3)), (("a", "x", 0, 3), ("b", "y", 0, 1)), ()),
                ("tick", (("x", 3), ("x", 3), ("y", 1)), (("a", "x", 0, 3), ("b", "y", 0, 1)), ()),
                ("tick", (("x", 4), ("y", 1)), (("a", "x", 0, 3), ("b", "y", 0, 1)), ()),
                ("tick", (("x", -1), ("y", 1)), (("a", "x", 0, 3), ("b", "y", 0, 1)), ()),
                ("tick", (("z", 1), ("y", 1)), (("a", "x", 0, 3), ("b", "y", 0, 1)), ()),
                ("tick", (("x", 3), ("y", 1)), (("b", "y", 0, 1), ("a", "x", 0, 3)), ()),
                ("tick", (("x", 3), ("y", 1)), (("a", "x", 0, 2), ("b", "y", 0, 1)), ()),
                ("tick", (("x", 3), ("y", 1)), (("a", "x", 0, 3),), ()),
                ("tick", (("x", 3), ("y", 1)), (("a", "x", 0, 3), ("b", "y", 0, 1)), (("x", 0, 3),)),
                ("tock", (("x", 3), ("y", 1)), (("a", "x", 0, 3), ("b", "y", 0, 1)), ())],
            5: [("go", "y", 2), ("go", "y", 0), ("go", "z", 1), ("go", "b", 1)],
            6: [("widen", "a", 0), ("widen", "x", 4), ("widen", "b", TOP + 1), ("widen", "a", 1)],
            7: [("shut", "b", -1), ("shut", "x", 2), ("shut", "b", TOP + 1), ("shut", "b", TOP)],
            8: [("turn", "y", (3, 1, 1), (("a", 4),)), ("turn", "x", (3, 2, 1), (("a", 4),)),
                ("turn", "x", (3, 1, 1), (("b", 2),)), ("turn", "x", (3, 1, 1), (("c", 4),))],
            9: [("tick", (("x", 1), ("x", 1)), (("a", "x", 1, 1),), ()), ("tick", (("x", 0),), (), ()),
                ("tick", (("x", 2),), (("a", "x", 1, 2),), ()), ("tick", (("y", 1),), (("a", "y", 1, 1),), ())],
        }
        for number, wrongs in rows.items():
            for wrong in wrongs:
                self.assert_wrong([*book[:number], wrong, *book[number + 1:]], number)

    def test_a_nought_in_comes(self):
        book = [("build", "a", 3), ("in", "x", (6, 1, 3), (("a", 4),)), ("tick", (("x", 0),), (), ())]
        self.assert_wrong(book, 2)
        book[2] = ("tick", (), (), ())
        self.assertIsNone(looked(book))

    def test_the_first_of_several_is_told(self):
        book = [("build", "a", 3), ("build", "A", 3), ("hop",), ("build", "b", 0)]
        self.assert_wrong(book, 1)
        self.assert_wrong([book[0], *book[2:]], 1)


if __name__ == "__main__":
    unittest.main()
