"""[6.1] to [6.3]: the deeds of a house, done and refused."""

import unittest

from hourlanes.errors import NoLane, NoName, NoTick, NoWay, Taken, TooMuch, Unknown
from hourlanes.house import House
from hourlanes.jars import Jar
from tests.counts import looks
from tests.drawn import tried

TOP = 10 ** 9
SMALL = Jar(2, 1, 1)
GREAT = Jar(50, 9, 50)


def house_of(*lanes):
    house = House()
    for name, width in lanes:
        house.build(name, width)
    return house


class HouseTest(unittest.TestCase):
    def assert_refused(self, house, error, field, word, *given):
        """The deed is refused with this error, and the house is as it was, to the last look."""
        ahead = looks(house)
        refusal = tried(house, word, *given)
        self.assertIs(type(refusal), error, (word, given))
        if field is not None:
            name = "place" if error is NoWay else "lane" if error is TooMuch else "name"
            self.assertEqual(getattr(refusal, name), field, (word, given))
        self.assertEqual(looks(house), ahead)
        return refusal


class BuildTest(HouseTest):
    def test_a_new_house(self):
        house = House()
        self.assertEqual(house.now, 0)
        self.assertEqual([house.lane_rows(), house.stream_rows(), house.lot_rows(), house.book()], [[], [], [], []])

    def test_lanes_stand_in_the_order_in_which_they_are_built(self):
        house = house_of(("west", 3), ("east", TOP), ("a", 1))
        house.build(name="mid", width=2)
        self.assertEqual(house.lane_rows(), [("west", 3, 0), ("east", TOP, 0), ("a", 1, 0), ("mid", 2, 0)])
        self.assertIsNone(house.build("abcdefgh", 5))

    def test_a_lane_is_built_later(self):
        house = house_of(("a", 1))
        house.tick()
        house.build("b", 2)
        self.assertEqual(house.lane_rows(), [("a", 1, 1), ("b", 2, 1)])
        house.let_in("b", SMALL, [("b", 2), ("a", 2)])
        self.assertEqual(house.stream_rows(), [("b", (2, 1, 1), 2, (("b", 2), ("a", 2)))])

    def test_refusals_in_their_order(self):
        house = house_of(("a", 1))
        for name in ["", "A", "a b", "abcdefghi", "a1", "-"]:
            self.assert_refused(house, NoName, name, "build", name, 0)
        self.assert_refused(house, Taken, "a", "build", "a", 0)
        self.assert_refused(house, Taken, "a", "build", "a", 4)
        for width in [0, -1, TOP + 1]:
            self.assert_refused(house, NoLane, None, "build", "b", width)

    def test_two_houses_beside_each_other(self):
        one, other = house_of(("a", 1)), house_of(("b", 2))
        one.let_in("x", SMALL, [("a", 3)])
        one.tick({"x": 1})
        self.assertEqual(other.lane_rows(), [("b", 2, 0)])
        self.assertEqual([other.now, other.stream_rows(), other.lot_rows()], [0, [], []])
        self.assertEqual(other.book(), [("build", "b", 2)])
        other.build("a", 7)
        self.assertEqual(one.lane_rows(), [("a", 1, 1)])


class LetInTest(HouseTest):
    def test_streams_stand_in_the_order_in_which_they_are_let_in(self):
        house = house_of(("a", 9), ("b", 9))
        self.assertIsNone(house.let_in("b", Jar(4, 1, 2), [("b", 5)]))
        house.let_in(name="a", jar=Jar(3, 2, 2), way=(("a", 1), ("b", TOP)))
        self.assertEqual(house.stream_rows(), [("b", (4, 1, 2), 4, (("b", 5),)),
                                               ("a", (3, 2, 2), 3, (("a", 1), ("b", TOP)))])
        house.let_go("b")
        house.let_in("b", Jar(4, 1, 2), [("b", 5)])
        self.assertEqual([row[0] for row in house.stream_rows()], ["a", "b"])

    def test_refusals_in_their_order(self):
        house = house_of(("a", 2), ("b", 2))
        house.let_in("x", SMALL, [("a", 9)])
        self.assert_refused(house, NoName, "X", "let_in", "X", GREAT, [])
        self.assert_refused(house, Taken, "x", "let_in", "x", GREAT, [])
        ways = [([], 0), ([("c", 1)], 0), ([("a", 0)], 0), ([("a", TOP + 1)], 0), ([("b", 1), ("b", 1)], 1),
                ([("a", 1), ("b", 1), ("x", 1)], 2)]
        for way, place in ways:
            self.assert_refused(house, NoWay, place, "let_in", "y", GREAT, way)
        self.assert_refused(house, TooMuch, "a", "let_in", "y", GREAT, [("a", 1)])
        house.let_in("a", SMALL, [("b", 9)])

    def test_a_way_of_five_lanes(self):
        house = house_of(*[(name, 2) for name in "abcde"])
        self.assert_refused(house, NoWay, 4, "let_in", "x", GREAT, [(name, 1) for name in "abcde"])
        house.let_in("x", SMALL, [(name, 1) for name in "abcd"])

    def test_just_as_much_as_can_be(self):
        house = house_of(("a", 3))
        self.assert_refused(house, TooMuch, "a", "let_in", "x", Jar(8, 3, 8), [("a", 2)])
        self.assert_refused(house, TooMuch, "a", "let_in", "x", Jar(9, 4, 4), [("a", TOP)])
        house.let_in("x", Jar(6, 3, 6), [("a", 2)])
        self.assert_refused(house, TooMuch, "a", "let_in", "y", Jar(1, 1, 1), [("a", TOP)])

    def test_nothing_hangs_on_what_was_handed_in(self):
        house = house_of(("a", 3), ("b", 3))
        way = [("a", 2), ["b", 3]]
        house.let_in("x", SMALL, way)
        way[1][1] = 9
        way.pop(0)
        self.assertEqual(house.stream_rows(), [("x", (2, 1, 1), 2, (("a", 2), ("b", 3)))])
        self.assertEqual(house.book()[-1], ("in", "x", (2, 1, 1), (("a", 2), ("b", 3))))


class TurnTest(HouseTest):
    def setUp(self):
        self.house = house_of(("a", 5), ("b", 5))
        for name in ["x", "y", "z"]:
            self.house.let_in(name, Jar(10, 1, 4), [("a", 40)])

    def test_it_keeps_its_place_and_its_marks(self):
        house = self.house
        house.tick({"y": 4})
        self.assertIsNone(house.turn("y", Jar(20, 2, 5), [("b", 30)]))
        self.assertEqual(house.stream_rows(), [("x", (10, 1, 4), 10, (("a", 40),)),
                                               ("y", (20, 2, 5), 7, (("b", 30),)),
                                               ("z", (10, 1, 4), 10, (("a", 40),))])
        house.turn(name="y", jar=Jar(5, 1, 3), way=(("a", 30), ("b", 9)))
        self.assertEqual(house.stream_rows()[1], ("y", (5, 1, 3), 5, (("a", 30), ("b", 9))))
        house.tick()
        self.assertEqual(house.stream_rows()[1][2], 5)

    def test_what_is_under_way_keeps_its_hours(self):
        house = self.house
        house.tick({"x": 4, "y": 2})
        lots = house.lot_rows()
        house.turn("x", Jar(10, 1, 4), [("b", 3), ("a", 30)])
        self.assertEqual(house.lot_rows(), lots)
        house.tick({"x": 1})
        self.assertEqual(house.lot_rows(), [*lots, ("x", 1, 1, ("b", "a"), (1, 4, 34))])

    def test_refusals_in_their_order(self):
        house = self.house
        self.assert_refused(house, Unknown, "w", "turn", "w", GREAT, [])
        self.assert_refused(house, Unknown, "X", "turn", "X", GREAT, [("a", 40)])
        self.assert_refused(house, NoWay, 0, "turn", "x", GREAT, [])
        self.assert_refused(house, NoWay, 1, "turn", "x", GREAT, [("a", 1), ("c", 1)])
        self.assert_refused(house, NoWay, 1, "turn", "x", GREAT, [("a", 1), ("a", 1)])
        self.assert_refused(house, TooMuch, "a", "turn", "x", Jar(10, 1, 6), [("a", 1), ("b", 1)])

    def test_it_is_judged_with_the_marks_that_it_keeps(self):
        house = house_of(("a", 2))
        house.let_in("x", Jar(6, 1, 6), [("a", 3)])
        self.assert_refused(house, TooMuch, "a", "turn", "x", Jar(7, 1, 7), [("a", 2)])
        house.tick({"x": 6})
        for _ in range(3):
            house.tick()
        # Four marks are in, and of the jar that fills up to six more could come in two ticks than 4.
        self.assertEqual(house.stream_rows()[0][2], 4)
        self.assert_refused(house, TooMuch, "a", "turn", "x", Jar(6, 1, 6), [("a", 2)])
        house.turn("x", Jar(4, 1, 4), [("a", 2)])

    def test_its_own_old_way_is_not_counted(self):
        house = house_of(("a", 2))
        house.let_in("x", Jar(4, 2, 4), [("a", 2)])
        self.assert_refused(house, TooMuch, "a", "let_in", "y", Jar(1, 1, 1), [("a", 9)])
        house.turn("x", Jar(6, 2, 6), [("a", 3)])
        house.turn("x", Jar(1, 1, 1), [("a", 1)])
        house.let_in("y", Jar(1, 1, 1), [("a", 9)])


class LetGoTest(HouseTest):
    def test_it_tells_the_pieces_in_lots_of_that_name(self):
        house = house_of(("a", 4), ("b", 4))
        house.let_in("x", Jar(9, 1, 4), [("a", 20), ("b", 3)])
        house.let_in("y", Jar(9, 1, 4), [("b", 20)])
        house.tick({"x": 3, "y": 2})
        house.tick({"x": 1})
        # All is carried on the first lane by now: what is not out is counted, carried or not.
        self.assertEqual(house.standing("a"), [])
        lots = house.lot_rows()
        self.assertEqual(house.let_go("x"), 4)
        self.assertEqual(house.lot_rows(), lots)
        self.assertEqual([row[0] for row in house.stream_rows()], ["y"])
        house.let_in("x", Jar(2, 1, 2), [("a", 20)])
        house.tick({"x": 2})
        self.assertEqual(house.let_go(name="x"), 6)
        self.assertEqual(house.let_go("y"), 2)
        self.assertEqual(house.book()[-2:], [("go", "x", 6), ("go", "y", 2)])

    def test_what_is_out_is_not_counted(self):
        house = house_of(("a", 4))
        house.let_in("x", Jar(9, 1, 4), [("a", 3)])
        for _ in range(3):
            house.tick({"x": 1})
        self.assertEqual(house.tick(), [("x", 0, 1)])
        self.assertEqual(house.let_go("x"), 2)

    def test_without_any(self):
        house = house_of(("a", 4))
        house.let_in("x", SMALL, [("a", 3)])
        self.assertEqual(house.let_go("x"), 0)
        self.assertEqual(house.stream_rows(), [])

    def test_refusals(self):
        house = house_of(("a", 4))
        house.let_in("x", SMALL, [("a", 3)])
        for name in ["a", "", "y"]:
            self.assert_refused(house, Unknown, name, "let_go", name)
        house.let_go("x")
        self.assert_refused(house, Unknown, "x", "let_go", "x")


class WidenTest(HouseTest):
    def test_to_more_and_to_less(self):
        house = house_of(("a", 4), ("b", 2))
        house.let_in("x", Jar(4, 1, 4), [("a", 2), ("b", 2)])
        self.assertIsNone(house.widen("a", TOP))
        self.assertEqual(house.lane_rows(), [("a", TOP, 0), ("b", 2, 0)])
        house.widen(lane="a", width=2)
        self.assertEqual(house.lane_rows(), [("a", 2, 0), ("b", 2, 0)])
        self.assert_refused(house, TooMuch, "a", "widen", "a", 1)
        self.assert_refused(house, TooMuch, "b", "widen", "b", 1)

    def test_what_stands_is_counted(self):
        house = house_of(("a", 2))
        house.let_in("x", Jar(6, 1, 6), [("a", 6)])
        house.tick({"x": 6})
        house.let_go("x")
        self.assertEqual(house.standing("a"), [("x", 0, 6, 4)])
        house.widen("a", 1)
        house.tick()
        for _ in range(2):
            house.tick()
        self.assertEqual(house.standing("a"), [("x", 0, 6, 1)])
        self.assert_refused(house, NoLane, None, "widen", "a", 0)

    def test_refusals_in_their_order(self):
        house = house_of(("a", 4))
        house.let_in("x", Jar(8, 1, 8), [("a", 2)])
        self.assert_refused(house, Unknown, "x", "widen", "x", 0)
        for width in [0, -3, TOP + 1]:
            self.assert_refused(house, NoLane, None, "widen", "a", width)
        self.assert_refused(house, TooMuch, "a", "widen", "a", 3)


class ShutTest(HouseTest):
    def test_one_that_is_shorter_than_one_that_stands(self):
        house = house_of(("a", 4), ("b", 4))
        self.assertIsNone(house.shut("a", 5))
        house.shut("a", 3)
        self.assertEqual(house.lane_rows(), [("a", 4, 5), ("b", 4, 0)])
        house.tick()
        house.shut(lane="a", ticks=4)
        self.assertEqual(house.lane_rows(), [("a", 4, 5), ("b", 4, 1)])
        house.shut("a", 5)
        self.assertEqual(house.lane_rows(), [("a", 4, 6), ("b", 4, 1)])
        house.shut("b", 0)
        self.assertEqual(house.lane_rows()[1], ("b", 4, 1))
        self.assertEqual(house.book()[-1], ("shut", "b", 0))

    def test_it_carries_nothing_for_so_many_ticks(self):
        house = house_of(("a", 4))
        house.let_in("x", Jar(4, 1, 4), [("a", 5)])
        house.shut("a", 2)
        lefts = []
        for many in [4, 0, 0, 0]:
            house.tick({"x": many})
            lefts.append([row[3] for row in house.standing("a")])
        self.assertEqual(lefts, [[4], [4], [], []])

    def test_as_long_as_can_be(self):
        house = house_of(("a", 2))
        house.let_in("x", Jar(4, 1, 4), [("a", 5)])
        self.assert_refused(house, TooMuch, "a", "shut", "a", 4)
        house.shut("a", 3)

    def test_the_bounds_of_ticks(self):
        house = house_of(("a", 2))
        house.shut("a", TOP)
        self.assertEqual(house.lane_rows(), [("a", 2, TOP)])
        self.assert_refused(house, NoTick, None, "shut", "a", TOP + 1)
        self.assert_refused(house, NoTick, None, "shut", "a", -1)
        house.tick()
        house.shut("a", TOP)
        self.assertEqual(house.lane_rows(), [("a", 2, TOP + 1)])

    def test_refusals_in_their_order(self):
        house = house_of(("a", 2))
        house.let_in("x", Jar(4, 1, 4), [("a", 2)])
        self.assert_refused(house, Unknown, "x", "shut", "x", -1)
        self.assert_refused(house, NoTick, None, "shut", "a", -1)
        self.assert_refused(house, NoTick, None, "shut", "a", TOP + 1)
        self.assert_refused(house, TooMuch, "a", "shut", "a", TOP)

    def test_a_stream_let_in_on_a_shut_lane(self):
        house = house_of(("a", 2))
        house.shut("a", 3)
        self.assert_refused(house, TooMuch, "a", "let_in", "x", Jar(1, 1, 1), [("a", 3)])
        house.let_in("x", Jar(1, 1, 1), [("a", 4)])


if __name__ == "__main__":
    unittest.main()
