"""[0.2] (a), [6.5] to [6.7] and [9.1]: houses led through long drawn runs, against a count of lots kept in the test."""

import random
import unittest

from hourlanes.house import House
from hourlanes.jars import Jar
from tests.counts import Audit, looks, looks_of_count
from tests.drawn import Run


class HouseRunsTest(unittest.TestCase):
    def assert_looks(self, run):
        told, counted = looks(run.house), looks_of_count(run.count)
        for name in counted:
            self.assertEqual(told[name], counted[name], name)

    def led(self, run, many):
        for _ in range(many):
            run.go_on()
            self.assert_looks(run)
        self.assertEqual(Audit(run.house.book()).faults, [])

    def test_looks_at_houses_of_small_numbers(self):
        for seed in range(40):
            self.led(Run(random.Random(400 + seed)), 110)

    def test_looks_at_houses_of_great_numbers(self):
        for seed in range(15):
            self.led(Run(random.Random(500 + seed), size=10 ** 9, waits=40, lanes=4), 110)

    def test_long_runs_keep_all_hours(self):
        pieces = 0
        for seed in range(10):
            run = Run(random.Random(600 + seed), size=8, waits=6, lanes=4)
            for _ in range(390):
                run.go_on()
            book = run.house.book()
            audit = Audit(book)
            self.assertEqual(audit.faults, [])
            came = sum(many for row in book if row[0] == "tick" for name, many in row[1])
            out = sum(many for row in book if row[0] == "tick" for name, at, many in row[3])
            self.assertEqual(came - out, sum(lot[2] for lot in run.house.lot_rows()))
            pieces += out
        self.assertGreater(pieces, 2000)

    def test_all_that_may_comes_always(self):
        for seed in range(10):
            run = Run(random.Random(700 + seed), size=6, waits=8, lanes=3)
            for _ in range(40):
                run.go_on()
            for _ in range(120):
                run.do("tick", {name: run.house.most_of(name) for name in run.names()})
            self.assertEqual(Audit(run.house.book()).faults, [])

    def test_the_audit_finds_what_is_wrong(self):
        house = House()
        house.build("a", 2)
        house.build("b", 2)
        house.let_in("x", Jar(4, 1, 2), [("a", 2), ("b", 2)])
        for many in [2, 2, 0, 0, 0]:
            house.tick({"x": many})
        book = house.book()
        self.assertEqual(Audit(book).faults, [])
        ticks = [number for number, row in enumerate(book) if row[0] == "tick"]
        for number in ticks[:4]:
            for at in [1, 2, 3]:
                row = list(book[number])
                if row[at]:
                    row[at] = ()
                    if at > 1:
                        spoilt = [*book[:number], tuple(row), *book[number + 1:]]
                        self.assertNotEqual(Audit(spoilt).faults, [], (number, at))

    def test_two_runs_are_the_same(self):
        books = []
        for _ in range(2):
            run = Run(random.Random(800))
            for _ in range(100):
                run.go_on()
            books.append(run.house.book())
        self.assertEqual(books[0], books[1])


class BookTest(unittest.TestCase):
    def test_a_row_of_each_deed(self):
        house = House()
        house.build("a", 3)
        house.build("b", 2)
        house.let_in("x", Jar(4, 1, 2), [["a", 4], ["b", 4]])
        house.let_in("w", Jar(2, 2, 2), (("a", 1),))
        house.tick({"w": 2, "x": 2})
        house.turn("w", Jar(2, 1, 2), [["a", 2]])
        house.tick({"w": 0})
        house.tick({"x": 1})
        house.widen("b", 5)
        house.shut("a", 1)
        house.tick({"w": 1})
        house.tick()
        house.let_go("x")
        self.assertEqual(house.book(), [
            ("build", "a", 3),
            ("build", "b", 2),
            ("in", "x", (4, 1, 2), (("a", 4), ("b", 4))),
            ("in", "w", (2, 2, 2), (("a", 1),)),
            ("tick", (("x", 2), ("w", 2)), (("a", "w", 0, 2), ("a", "x", 0, 1)), ()),
            ("turn", "w", (2, 1, 2), (("a", 2),)),
            ("tick", (), (("a", "x", 0, 1),), (("w", 0, 2),)),
            ("tick", (("x", 1),), (("a", "x", 2, 1),), ()),
            ("widen", "b", 5),
            ("shut", "a", 1),
            ("tick", (("w", 1),), (), ()),
            ("tick", (), (("a", "w", 3, 1), ("b", "x", 0, 2)), ()),
            ("go", "x", 3),
        ])

    def test_lanes_in_their_order_and_lots_by_hour(self):
        house = House()
        house.build("b", 9)
        house.build("a", 9)
        house.let_in("y", Jar(3, 1, 3), [("a", 9)])
        house.let_in("x", Jar(3, 1, 3), [("a", 2)])
        house.let_in("z", Jar(3, 1, 3), [("b", 2)])
        house.let_in("w", Jar(3, 1, 3), [("a", 2)])
        house.tick({"z": 1, "y": 1, "w": 1, "x": 1})
        self.assertEqual(house.book()[-1], (
            "tick", (("y", 1), ("x", 1), ("z", 1), ("w", 1)),
            (("b", "z", 0, 1), ("a", "x", 0, 1), ("a", "w", 0, 1), ("a", "y", 0, 1)), ()))

    def test_the_count_keeps_the_same_rows_of_ticks(self):
        for seed in range(20):
            run = Run(random.Random(900 + seed), size=7, waits=8)
            for _ in range(80):
                ahead = run.count.twin()
                row, refusal = run.go_on()
                if row[0] == "tick":
                    carried, outs = ahead.tick(row[1])
                    comes = [(name, row[1][name]) for name in run.names() if row[1].get(name)]
                    self.assertEqual(run.house.book()[-1], ("tick", tuple(comes), tuple(carried), tuple(outs)))

    def test_each_deed_that_is_not_refused_has_one_row(self):
        words = set()
        for seed in range(10):
            run = Run(random.Random(950 + seed))
            for _ in range(100):
                ahead = run.house.book()
                row, refusal = run.go_on()
                book = run.house.book()
                self.assertEqual(book[:len(ahead)], ahead)
                self.assertEqual(len(book) - len(ahead), 1 if refusal is None else 0)
                if refusal is None:
                    self.assertEqual(book[-1][0], row[0])
                    words.add(row[0])
                    hash(book[-1])
        self.assertEqual(words, {"in", "turn", "go", "widen", "shut", "tick"})

    def test_a_told_list_that_is_changed_changes_no_book(self):
        house = House()
        house.build("a", 3)
        house.book().clear()
        told = house.book()
        told[0] = ("build", "z", 1)
        self.assertEqual(house.book(), [("build", "a", 3)])
        house.tick()
        self.assertEqual(told, [("build", "z", 1)])


if __name__ == "__main__":
    unittest.main()
