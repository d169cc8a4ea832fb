"""[6.5] to [6.7]: ticks, what is out, looks, and the scenes of lanes."""

import unittest

from hourlanes.errors import TooMany, Unknown
from hourlanes.house import House
from hourlanes.jars import Jar
from tests.counts import looks, looks_of_scene
from tests.drawn import tried

TOP = 10 ** 9


def two_lanes():
    """Lanes a of width 2 and b of width 3, and streams y (a, then b), x (b), z (b, then a), in this order."""
    house = House()
    house.build("a", 2)
    house.build("b", 3)
    house.let_in("y", Jar(4, 1, 3), [("a", 4), ("b", 3)])
    house.let_in("x", Jar(3, 1, 3), [("b", 5)])
    house.let_in("z", Jar(2, 1, 1), [("b", 6), ("a", 9)])
    return house


class TickTest(unittest.TestCase):
    def assert_refused(self, house, error, fields, comes):
        ahead = looks(house)
        refusal = tried(house, "tick", comes)
        self.assertIs(type(refusal), error)
        self.assertEqual({name: getattr(refusal, name) for name in fields}, fields)
        self.assertEqual(looks(house), ahead)

    def test_an_empty_house(self):
        house = House()
        self.assertEqual([house.tick(), house.tick(None), house.tick({})], [[], [], []])
        self.assertEqual(house.now, 3)

    def test_names_that_are_left_out(self):
        house = two_lanes()
        for comes in [{"x": 2}, {"y": 0}, {}, None]:
            house.tick(comes=comes)
        self.assertEqual(house.now, 4)
        self.assertEqual(house.lot_rows(), [("x", 0, 2, ("b",), (0, 5))])
        self.assertEqual([row[2] for row in house.stream_rows()], [4, 3, 2])

    def test_what_comes_is_not_changed_and_may_be_later(self):
        house = two_lanes()
        comes = {"x": 2, "y": 1}
        house.tick(comes)
        self.assertEqual(comes, {"x": 2, "y": 1})
        comes.clear()
        self.assertEqual([row[:3] for row in house.lot_rows()], [("y", 0, 1), ("x", 0, 2)])

    def test_a_name_that_is_no_stream(self):
        house = two_lanes()
        self.assert_refused(house, Unknown, {"name": "c"}, {"x": 99, "c": 0, "d": 1})
        self.assert_refused(house, Unknown, {"name": "a"}, {"a": 0, "c": 0})
        self.assert_refused(house, Unknown, {"name": "d"}, {"d": -1, "x": -1})
        house.let_go("x")
        self.assert_refused(house, Unknown, {"name": "x"}, {"x": 1})

    def test_too_many_and_fewer_than_none(self):
        house = two_lanes()
        self.assert_refused(house, TooMany, {"name": "x", "bound": 3}, {"x": 4})
        self.assert_refused(house, TooMany, {"name": "x", "bound": 3}, {"x": -1})
        self.assert_refused(house, TooMany, {"name": "y", "bound": 3}, {"z": 2, "x": 4, "y": 4})
        self.assert_refused(house, TooMany, {"name": "x", "bound": 3}, {"z": 2, "x": -1, "y": 3})
        house.tick({"x": 3, "y": 3, "z": 1})
        self.assert_refused(house, TooMany, {"name": "x", "bound": 1}, {"x": 2})
        self.assertEqual([house.most_of(name) for name in ["y", "x", "z"]], [2, 1, 1])

    def test_lots_of_one_tick_stand_in_the_order_of_streams(self):
        house = two_lanes()
        house.tick({"z": 1, "x": 1, "y": 1})
        house.tick({"z": 1, "y": 2})
        self.assertEqual([row[:3] for row in house.lot_rows()],
                         [("y", 0, 1), ("x", 0, 1), ("z", 0, 1), ("y", 1, 2), ("z", 1, 1)])
        self.assertEqual(house.lot_rows()[0][3:], (("a", "b"), (0, 4, 7)))
        self.assertEqual(house.lot_rows()[4][3:], (("b", "a"), (1, 7, 16)))

    def test_what_is_out_at_its_last_hour(self):
        house = two_lanes()
        told = [house.tick({"z": 1, "x": 1, "y": 1})]
        for _ in range(17):
            told.append(house.tick({}))
        outs = {tick: rows for tick, rows in enumerate(told) if rows}
        self.assertEqual(outs, {5: [("x", 0, 1)], 7: [("y", 0, 1)], 15: [("z", 0, 1)]})
        self.assertEqual(house.lot_rows(), [])

    def test_several_are_out_in_one_tick(self):
        house = House()
        house.build("a", 9)
        house.let_in("x", Jar(3, 1, 3), [("a", 2)])
        house.let_in("w", Jar(3, 1, 3), [("a", 3)])
        house.tick({"w": 1})
        house.tick({"x": 2, "w": 1})
        house.tick({})
        self.assertEqual([row[:3] for row in house.lot_rows()], [("w", 0, 1), ("x", 1, 2), ("w", 1, 1)])
        self.assertEqual(house.tick(), [("w", 0, 1), ("x", 1, 2)])
        self.assertEqual(house.tick(), [("w", 1, 1)])

    def test_what_is_told_is_the_askers_own(self):
        house = House()
        house.build("a", 9)
        house.let_in("x", Jar(3, 1, 3), [("a", 1)])
        house.tick({"x": 1})
        ahead = looks(house)
        for told in [house.lane_rows(), house.stream_rows(), house.lot_rows(), house.standing("a"), house.book(),
                     house.scene("a").known_rows(), house.scene("a").ask_rows()]:
            told.append("more")
            told.reverse()
        house.scene("a").ask_rows()[0][0].come(3)
        self.assertEqual(looks(house), ahead)
        outs = house.tick()
        self.assertEqual(outs, [("x", 0, 1)])
        outs.clear()
        self.assertEqual(house.book()[-1], ("tick", (), (), (("x", 0, 1),)))

    def test_the_lesser_hour_goes_first_then_the_first_lot(self):
        house = House()
        house.build("a", 2)
        house.let_in("slow", Jar(3, 1, 3), [("a", 12)])
        house.let_in("fast", Jar(1, 1, 1), [("a", 2)])
        house.tick({"slow": 3, "fast": 1})
        self.assertEqual(house.standing("a"), [("slow", 0, 12, 2)])
        house.tick({"slow": 1, "fast": 1})
        self.assertEqual(house.standing("a"), [("slow", 0, 12, 1), ("slow", 1, 13, 1)])
        house.tick()
        self.assertEqual(house.standing("a"), [])

    def test_of_one_hour_the_first_lot_goes_first(self):
        house = House()
        house.build("a", 2)
        house.let_in("late", Jar(2, 1, 2), [("a", 4)])
        house.let_in("soon", Jar(3, 1, 3), [("a", 5)])
        house.tick({"soon": 3})
        house.tick({"late": 2})
        self.assertEqual(house.book()[-1][2], (("a", "soon", 0, 1), ("a", "late", 1, 1)))
        house.tick({"soon": 1})
        self.assertEqual(house.book()[-1][2], (("a", "late", 1, 1), ("a", "soon", 2, 1)))

    def test_what_is_carried_early_waits_till_its_hour(self):
        house = two_lanes()
        house.tick({"y": 1})
        for _ in range(3):
            self.assertEqual((house.standing("a"), house.standing("b")), ([], []))
            house.tick()
        self.assertEqual(house.book()[-1][2], ())
        house.tick()
        self.assertEqual(house.book()[-1][2], (("b", "y", 0, 1),))

    def test_great_numbers(self):
        house = House()
        house.build("a", TOP)
        house.let_in("x", Jar(TOP, TOP, TOP), [("a", TOP)])
        self.assertEqual(house.tick({"x": TOP}), [])
        self.assertEqual(house.lot_rows(), [("x", 0, TOP, ("a",), (0, TOP))])
        self.assertEqual(house.book()[-1], ("tick", (("x", TOP),), (("a", "x", 0, TOP),), ()))


class LooksTest(unittest.TestCase):
    def test_standing_leaves_out_what_comes_now(self):
        house = House()
        house.build("a", 1)
        house.build("b", 1)
        house.let_in("x", Jar(2, 1, 2), [("a", 3), ("b", 9)])
        house.tick({"x": 2})
        self.assertEqual(house.standing(lane="a"), [("x", 0, 3, 1)])
        house.tick()
        house.tick()
        # The lot comes to lane b in tick 3, the next one: it does not stand there yet.
        self.assertEqual((house.now, house.standing("b")), (3, []))
        house.tick()
        self.assertEqual(house.standing("b"), [("x", 0, 12, 1)])

    def test_lane_rows_of_shut_lanes(self):
        house = two_lanes()
        house.shut("b", 2)
        opens = []
        for _ in range(4):
            opens.append([row[2] for row in house.lane_rows()])
            house.tick()
        self.assertEqual(opens, [[0, 2], [1, 2], [2, 2], [3, 3]])

    def test_looks_that_name_what_is_not_there(self):
        house = two_lanes()
        for word, names in [("standing", ["x", "c", ""]), ("most_of", ["a", "w", ""]), ("scene", ["x", "c", ""])]:
            for name in names:
                refusal = tried(house, word, name)
                self.assertIs(type(refusal), Unknown)
                self.assertEqual(refusal.name, name)

    def test_most_of(self):
        house = two_lanes()
        self.assertEqual(house.most_of(name="y"), 3)
        house.tick({"y": 3})
        self.assertEqual(house.most_of("y"), 2)
        self.assertEqual(house.most_of("z"), 1)


class SceneTest(unittest.TestCase):
    def test_what_stands_what_is_under_way_and_streams_that_have_the_lane_later_on(self):
        house = two_lanes()
        house.shut("b", 1)
        house.tick({"y": 3, "x": 3, "z": 1})
        house.tick({"y": 1, "z": 1})
        self.assertEqual(looks_of_scene(house.scene(lane="b")), (
            3, 2, [(4, 7, 3), (2, 6, 1), (5, 8, 1), (2, 7, 1)],
            [((4, 1, 3), 2, 4, 3), ((3, 1, 3), 2, 0, 5), ((2, 1, 1), 2, 0, 6)], 2))
        self.assertEqual(looks_of_scene(house.scene("a")), (
            2, 2, [(6, 15, 1), (7, 16, 1)], [((4, 1, 3), 2, 0, 4), ((2, 1, 1), 2, 6, 9)], 2))

    def test_shut_and_widened_lanes(self):
        house = two_lanes()
        house.let_go("y")
        house.shut("a", 4)
        house.widen("a", 7)
        scene = house.scene("a")
        self.assertEqual((scene.width, scene.now, scene.opens), (7, 0, 4))

    def test_what_comes_now_to_a_later_lane(self):
        house = two_lanes()
        house.tick({"y": 2})
        for _ in range(3):
            house.tick()
        self.assertEqual(house.scene("b").known_rows(), [(4, 7, 2)])
        self.assertEqual(house.scene("a").known_rows(), [])

    def test_a_scene_is_held_while_the_house_goes_on(self):
        house = two_lanes()
        house.tick({"y": 3})
        scene = house.scene("a")
        ahead = looks_of_scene(scene)
        needs = [scene.need(1, end) for end in range(2, 20)]
        house.tick({"y": 2})
        house.turn("y", Jar(1, 1, 1), [("a", 4)])
        house.widen("a", 9)
        house.shut("a", 1)
        self.assertEqual(looks_of_scene(scene), ahead)
        self.assertEqual([scene.need(1, end) for end in range(2, 20)], needs)

    def test_what_is_done_to_a_scene_is_not_done_to_the_house(self):
        house = two_lanes()
        ahead = looks(house)
        house.scene("a").with_width(1).with_opens(9)
        for flow, after, wait in house.scene("a").ask_rows():
            flow.come(1)
        self.assertEqual(looks(house), ahead)

    def test_a_lane_without_anything(self):
        house = House()
        house.build("a", 4)
        house.tick()
        self.assertEqual(looks_of_scene(house.scene("a")), (4, 1, [], [], 1))


if __name__ == "__main__":
    unittest.main()
