"""[9.3]: books whose lanes may carry in any way."""

import random
import unittest

from hourlanes.books import kept, looked
from tests.drawn import Run
from tests.keeping import Carrier, first_unkept
from tests.spoils import spoilt

TOP = 10 ** 9
START = [("build", "a", 3), ("build", "b", 2), ("in", "x", (6, 1, 4), (("a", 3), ("b", 2))),
         ("in", "y", (4, 1, 2), (("b", 3),))]


def tick(comes=(), carried=(), outs=()):
    return ("tick", tuple(comes), tuple(carried), tuple(outs))


class KeptTest(unittest.TestCase):
    def assert_kept(self, *rows):
        self.assertIsNone(kept([*START, *rows]), rows)

    def assert_wrong(self, *rows):
        """The last of the rows is the first wrong one."""
        book = [*START, *rows]
        self.assertEqual(kept(book), len(book) - 1, rows)
        self.assertEqual(kept([*book, ("hop",)]), len(book) - 1, rows)

    def test_books_of_houses(self):
        for seed in range(30):
            run = Run(random.Random(1900 + seed), size=[6, TOP][seed % 2])
            for _ in range(80):
                run.go_on()
            book = run.house.book()
            self.assertIsNone(kept(book=book))
            self.assertEqual(book, run.house.book())

    def test_books_of_houses_with_one_row_spoilt(self):
        chance = random.Random(93)
        seen = {True: 0, False: 0}
        for seed in range(60):
            run = Run(random.Random(2000 + seed))
            for _ in range(25):
                run.go_on()
            book = run.house.book()
            for _ in range(30):
                word, wrong = spoilt(chance, book, chance.randrange(len(book)))
                expected = first_unkept(wrong)
                self.assertEqual(kept(wrong), expected, (word, wrong))
                seen[expected is None] += 1
        self.assertGreater(min(seen.values()), 100, seen)

    def drawn_book(self, chance, hasty):
        """A book whose lanes carry in drawn ways, of streams that would be let in."""
        run = Run(chance, size=4, waits=12)
        for _ in range(30):
            row = run.drawn()
            if row[0] in ("in", "turn", "go"):
                run.go_on()
        carrier = Carrier(chance, hasty)
        for row in run.house.book():
            if row[0] != "tick":
                carrier.do(*row)
        for _ in range(30):
            names = [stream[0] for stream in carrier.count.streams]
            comes = [(name, chance.randrange(carrier.count.most_of(name) + 1)) for name in names]
            comes = [(name, many) for name, many in comes if many and chance.random() < 0.7]
            chance.shuffle(comes)
            carrier.tick(comes)
        return carrier.book

    def test_lanes_that_carry_in_other_ways(self):
        seen = {"kept": 0, "late": 0, "other": 0}
        for seed in range(120):
            chance = random.Random(2100 + seed)
            book = self.drawn_book(chance, seed % 3 > 0)
            expected = first_unkept(book)
            self.assertEqual(kept(book), expected)
            seen["late" if expected is not None else "kept"] += 1
            if expected is None and looked(book) is not None:
                seen["other"] += 1
        self.assertGreater(min(seen.values()), 10, seen)

    def test_any_way_and_any_order_in_time(self):
        came = [("y", 1), ("x", 4)]
        self.assert_kept(tick(came), tick(carried=[("b", "y", 0, 1), ("a", "x", 0, 2)]),
                         tick(carried=[("a", "x", 0, 1), ("a", "x", 0, 1)]),
                         tick(carried=[("b", "x", 0, 2)], outs=[("y", 0, 1)]),
                         tick(carried=[("b", "x", 0, 1), ("b", "x", 0, 1)]), tick(outs=[("x", 0, 4)]))

    def test_less_than_could_be(self):
        self.assert_kept(tick([("x", 1)]), tick(), tick(carried=[("a", "x", 0, 1)]), tick(),
                         tick(carried=[("b", "x", 0, 1)]), tick(outs=[("x", 0, 1)]))

    def test_what_is_too_late(self):
        self.assert_wrong(tick([("x", 1)]), tick(), tick())
        self.assert_wrong(tick([("x", 4)]), tick(carried=[("a", "x", 0, 3)]), tick())
        self.assert_wrong(tick([("x", 1)], [("a", "x", 0, 1)]), tick(), tick(), tick(), tick())
        self.assert_wrong(tick([("x", 1)]), ("go", "x", 1), ("in", "x", (1, 1, 1), (("b", 9),)), tick(), tick())

    def test_too_much_on_a_lane(self):
        self.assert_wrong(tick([("x", 4)], [("a", "x", 0, 4)]))
        self.assert_wrong(tick([("x", 4)], [("a", "x", 0, 3), ("a", "x", 0, 1)]))
        self.assert_wrong(tick([("x", 2)], [("a", "x", 0, 1)]), tick([("x", 3)], [("a", "x", 0, 1), ("a", "x", 1, 3)]))
        self.assert_kept(tick([("x", 2)], [("a", "x", 0, 1)]), tick([("x", 3)], [("a", "x", 0, 1), ("a", "x", 1, 2)]))
        self.assert_kept(("widen", "a", 4), tick([("x", 4)], [("a", "x", 0, 4)]))
        self.assert_wrong(("widen", "a", 1), tick([("x", 2)], [("a", "x", 0, 2)]))

    def test_a_shut_lane(self):
        self.assert_wrong(("shut", "a", 1), tick([("x", 1)], [("a", "x", 0, 1)]))
        self.assert_kept(("shut", "a", 1), tick([("x", 1)]), tick(carried=[("a", "x", 0, 1)]))
        self.assert_wrong(("shut", "a", 2), tick([("x", 1)]), ("shut", "a", 0), tick(carried=[("a", "x", 0, 1)]))

    def test_a_lane_that_is_none(self):
        self.assert_wrong(tick([("x", 1)], [("c", "x", 0, 1)]))
        self.assert_wrong(tick([("x", 1)], [("x", "x", 0, 1)]))

    def test_a_lot_that_is_none(self):
        self.assert_wrong(tick([("x", 1)], [("a", "z", 0, 1)]))
        self.assert_wrong(tick([("x", 1)], [("a", "x", 1, 1)]))
        self.assert_wrong(tick([("x", 1)]), tick(carried=[("a", "x", 1, 1)]))
        self.assert_wrong(tick(carried=[("a", "x", 0, 1)]))

    def test_a_lot_that_is_not_at_that_lane_then(self):
        self.assert_wrong(tick([("x", 1)], [("b", "x", 0, 1)]))
        self.assert_wrong(tick([("y", 1)], [("a", "y", 0, 1)]))
        ahead = [tick([("x", 1)], [("a", "x", 0, 1)]), tick()]
        self.assert_wrong(*ahead, tick(carried=[("b", "x", 0, 1)]))
        self.assert_kept(*ahead, tick(), tick(carried=[("b", "x", 0, 1)]))
        done = [*ahead, tick(), tick(carried=[("b", "x", 0, 1)]), tick()]
        self.assert_wrong(*done, tick(carried=[("b", "x", 0, 1)], outs=[("x", 0, 1)]))
        self.assert_wrong(*done, tick(outs=[("x", 0, 1)]), tick(carried=[("b", "x", 0, 1)]))

    def test_not_so_many_left(self):
        self.assert_wrong(tick([("x", 1)], [("a", "x", 0, 2)]))
        self.assert_wrong(tick([("x", 2)], [("a", "x", 0, 1), ("a", "x", 0, 2)]))
        self.assert_wrong(tick([("x", 2)], [("a", "x", 0, 2)]), tick(carried=[("a", "x", 0, 1)]))

    def test_numbers_below_one(self):
        self.assert_wrong(tick([("x", 2)], [("a", "x", 0, 0)]))
        self.assert_wrong(tick([("x", 2)], [("a", "x", 0, 2), ("a", "x", 0, -1)]))
        self.assert_wrong(tick([("x", 0)]))
        self.assert_wrong(tick([("x", -1)]))

    def test_what_comes(self):
        self.assert_wrong(tick([("z", 1)]))
        self.assert_wrong(tick([("a", 1)]))
        self.assert_wrong(tick([("x", 1), ("x", 1)]))
        self.assert_wrong(tick([("x", 5)]))
        self.assert_wrong(tick([("x", 4)], [("a", "x", 0, 3)]), tick([("x", 4)]))
        self.assert_kept(tick([("y", 2), ("x", 4)]))
        self.assert_kept(tick([("x", 4)], [("a", "x", 0, 3)]), tick([("x", 3)], [("a", "x", 0, 1)]))

    def test_outs(self):
        ahead = [tick([("y", 1), ("x", 1)], [("b", "y", 0, 1), ("a", "x", 0, 1)]), tick(), tick()]
        self.assert_wrong(*ahead, tick())
        self.assert_wrong(*ahead, tick(outs=[("y", 0, 2)]))
        self.assert_wrong(*ahead, tick(outs=[("y", 0, 1), ("y", 0, 1)]))
        self.assert_wrong(*ahead, tick(outs=[("y", 0, 1), ("x", 0, 1)]))
        self.assert_kept(*ahead, tick(carried=[("b", "x", 0, 1)], outs=[("y", 0, 1)]))
        self.assert_wrong(tick(outs=[("y", 0, 1)]))

    def test_outs_in_their_order(self):
        late = ("in", "w", (2, 1, 2), (("b", 3),))
        came = tick([("w", 1), ("y", 1)], [("b", "w", 0, 1), ("b", "y", 0, 1)])
        self.assert_kept(late, came, tick(), tick(), tick(outs=[("y", 0, 1), ("w", 0, 1)]))
        self.assert_wrong(late, came, tick(), tick(), tick(outs=[("w", 0, 1), ("y", 0, 1)]))

    def test_deeds(self):
        self.assert_wrong(("hop", "a", 1))
        self.assert_wrong(("build", "c", 0))
        self.assert_wrong(("build", "a", 1))
        self.assert_wrong(("build", "C", 1))
        self.assert_wrong(("in", "x", (1, 1, 1), (("a", 1),)))
        self.assert_wrong(("in", "X", (1, 1, 1), (("a", 1),)))
        self.assert_wrong(("in", "z", (1, 2, 1), (("a", 1),)))
        self.assert_wrong(("in", "z", (1, 1, 1), (("c", 1),)))
        self.assert_wrong(("turn", "z", (1, 1, 1), (("a", 1),)))
        self.assert_wrong(("turn", "x", (1, 0, 1), (("a", 1),)))
        self.assert_wrong(("turn", "x", (1, 1, 1), ()))
        self.assert_wrong(("go", "z", 0))
        self.assert_wrong(("widen", "x", 1))
        self.assert_wrong(("widen", "a", TOP + 1))
        self.assert_wrong(("shut", "x", 1))
        self.assert_wrong(("shut", "a", -1))
        self.assert_wrong(("shut", "a", TOP + 1))

    def test_what_go_tells_is_not_asked(self):
        self.assert_kept(tick([("x", 1)]), ("go", "x", 77), tick(carried=[("a", "x", 0, 1)]))
        self.assertIsNotNone(looked([*START, ("go", "x", 77)]))

    def test_what_is_too_much_for_a_house_is_kept(self):
        self.assert_kept(("in", "z", (TOP, TOP, TOP), (("a", 1),)), ("shut", "a", TOP),
                         ("turn", "x", (9, 9, 9), (("a", 1),)))
        self.assert_kept(("widen", "a", 1), ("widen", "b", 1), tick([("x", 3)], [("a", "x", 0, 1)]),
                         tick(carried=[("a", "x", 0, 1)]), tick(carried=[("a", "x", 0, 1)]))

    def test_a_turned_stream_keeps_its_marks(self):
        self.assert_wrong(tick([("y", 2)], [("b", "y", 0, 2)]), ("turn", "y", (9, 9, 9), (("b", 9),)), tick([("y", 4)]))
        self.assert_kept(tick([("y", 2)], [("b", "y", 0, 2)]), ("turn", "y", (9, 9, 9), (("b", 9),)), tick([("y", 3)]))

    def test_an_empty_book(self):
        self.assertIsNone(kept([]))


if __name__ == "__main__":
    unittest.main()
