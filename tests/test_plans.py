"""[3.2]: plans."""

import copy
import unittest

from hourlanes.errors import LaneError, NoLane, NoName, NoWay, Taken
from hourlanes.jars import Jar
from hourlanes.plans import Plan

TOP = 10 ** 9
LANES = [("a", 3), ("b", 4)]
STREAMS = [("s", Jar(9, 2, 5), [("a", 2), ("b", 3)]), ("t", Jar(5, 1, 1), [("b", 7)])]
NO_NAMES = ["", "A", "abcdefghi", "a1", "a b", "a-"]


class PlanTest(unittest.TestCase):
    def refusal(self, lanes, streams):
        """The class of what is raised and its fields."""
        with self.assertRaises(LaneError) as caught:
            Plan(lanes, streams)
        return (type(caught.exception), vars(caught.exception))

    def test_fields(self):
        plan = Plan(LANES, STREAMS)
        self.assertEqual(plan.lanes, [("a", 3), ("b", 4)])
        self.assertEqual(plan.streams, [("s", Jar(9, 2, 5), (("a", 2), ("b", 3))), ("t", Jar(5, 1, 1), (("b", 7),))])
        self.assertIsInstance(plan.lanes, list)
        self.assertIsInstance(plan.streams, list)

    def test_fields_are_tuples_whatever_was_handed_in(self):
        plan = Plan([["a", 3]], [["s", Jar(9, 2, 5), (["a", 2],)]])
        self.assertEqual(plan.lanes, [("a", 3)])
        self.assertEqual(plan.streams, [("s", Jar(9, 2, 5), (("a", 2),))])

    def test_nothing_in_it(self):
        plan = Plan([], [])
        self.assertEqual((plan.lanes, plan.streams), ([], []))
        self.assertEqual(Plan([("a", 1)], []).streams, [])

    def test_by_names(self):
        self.assertEqual(Plan(streams=STREAMS, lanes=LANES), Plan(LANES, STREAMS))

    def test_the_lists_handed_in_stay_and_may_be_changed(self):
        leg = ["a", 2]
        lane = ["a", 3]
        lanes, way = [lane, ["b", 4]], [leg, ["b", 3]]
        stream = ["s", Jar(9, 2, 5), way]
        streams = [stream]
        plan = Plan(lanes, streams)
        self.assertEqual((lanes, way), ([["a", 3], ["b", 4]], [["a", 2], ["b", 3]]))
        leg[1] = lane[1] = 8
        stream[0] = "x"
        for each in [lanes, way, streams, stream]:
            each.clear()
        self.assertEqual(plan.lanes, [("a", 3), ("b", 4)])
        self.assertEqual(plan.streams, [("s", Jar(9, 2, 5), (("a", 2), ("b", 3)))])

    def test_a_lane_that_is_no_name(self):
        for name in NO_NAMES:
            self.assertEqual(self.refusal([("a", 1), (name, 1)], []), (NoName, {"name": name}))

    def test_a_lane_that_is_taken(self):
        self.assertEqual(self.refusal([("a", 1), ("b", 1), ("a", 2)], []), (Taken, {"name": "a"}))

    def test_widths(self):
        for width in [1, 2, TOP]:
            self.assertEqual(Plan([("a", width)], []).lanes, [("a", width)])
        for width in [0, -1, TOP + 1, 10 ** 40]:
            self.assertEqual(self.refusal([("a", width)], []), (NoLane, {}))

    def test_a_stream_that_is_no_name(self):
        for name in NO_NAMES:
            streams = STREAMS + [(name, Jar(1, 1, 1), [("a", 1)])]
            self.assertEqual(self.refusal(LANES, streams), (NoName, {"name": name}))

    def test_a_stream_that_is_taken(self):
        streams = STREAMS + [("s", Jar(1, 1, 1), [("a", 1)])]
        self.assertEqual(self.refusal(LANES, streams), (Taken, {"name": "s"}))

    def test_a_stream_called_like_a_lane(self):
        plan = Plan(LANES, [("a", Jar(1, 1, 1), [("a", 1)])])
        self.assertEqual(plan.streams, [("a", Jar(1, 1, 1), (("a", 1),))])

    def test_ways_that_are_wrong(self):
        lanes = [(name, 1) for name in "abcde"]
        for way, place in [([], 0), ((), 0), ([("x", 1)], 0), ([("a", 1), ("x", 1)], 1), ([("a", 1), ("a", 1)], 1),
                           ([("a", 0)], 0), ([("a", 1), ("b", TOP + 1)], 1), ([(name, 1) for name in "abcde"], 4)]:
            self.assertEqual(self.refusal(lanes, [("s", Jar(1, 1, 1), way)]), (NoWay, {"place": place}))
        Plan(lanes, [("s", Jar(1, 1, 1), [("a", 1), ("b", TOP), ("c", 1), ("d", 1)])])

    def test_the_first_refusal_of_a_lane(self):
        self.assertEqual(self.refusal([("A", 0), ("A", 0)], []), (NoName, {"name": "A"}))
        self.assertEqual(self.refusal([("a", 1), ("a", 0)], []), (Taken, {"name": "a"}))

    def test_lane_by_lane(self):
        self.assertEqual(self.refusal([("a", 0), ("A", 1)], []), (NoLane, {}))
        self.assertEqual(self.refusal([("a", 1), ("a", 1), ("A", 1)], []), (Taken, {"name": "a"}))
        self.assertEqual(self.refusal([("a", 1), ("A", 1), ("a", 1)], []), (NoName, {"name": "A"}))

    def test_lanes_ahead_of_streams(self):
        wrong = [("S", Jar(1, 1, 1), [])]
        self.assertEqual(self.refusal([("a", 0)], wrong), (NoLane, {}))
        self.assertEqual(self.refusal([("a", 1), ("a", 1)], wrong), (Taken, {"name": "a"}))
        self.assertEqual(self.refusal([("a", 1)], wrong), (NoName, {"name": "S"}))

    def test_stream_by_stream(self):
        good, jar = [("a", 1)], Jar(1, 1, 1)
        self.assertEqual(self.refusal(LANES, [("s", jar, []), ("S", jar, good)]), (NoWay, {"place": 0}))
        self.assertEqual(self.refusal(LANES, [("s", jar, good), ("s", jar, [])]), (Taken, {"name": "s"}))
        self.assertEqual(self.refusal(LANES, [("S", jar, []), ("s", jar, [])]), (NoName, {"name": "S"}))
        self.assertEqual(
            self.refusal(LANES, [("s", jar, good), ("s", jar, good), ("S", jar, good)]), (Taken, {"name": "s"}))

    def test_equal_plans(self):
        self.assertTrue(Plan(LANES, STREAMS) == Plan(copy.deepcopy(LANES), copy.deepcopy(STREAMS)))
        self.assertFalse(Plan(LANES, STREAMS) != Plan(LANES, STREAMS))
        as_tuples = [(name, jar, tuple(way)) for name, jar, way in STREAMS]
        self.assertTrue(Plan(LANES, STREAMS) == Plan(LANES, as_tuples))
        self.assertTrue(Plan([], []) == Plan([], []))

    def test_unlike_in_every_single_thing(self):
        first, second = STREAMS
        others = [
            Plan([("a", 2), ("b", 4)], STREAMS),
            Plan([("b", 4), ("a", 3)], STREAMS),
            Plan(LANES + [("c", 4)], STREAMS),
            Plan(LANES, [first]),
            Plan(LANES, [second]),
            Plan(LANES, [second, first]),
            Plan(LANES, []),
            Plan([], []),
            Plan(LANES, STREAMS + [("u", second[1], second[2])]),
            Plan(LANES, [first, ("u", second[1], second[2])]),
            Plan(LANES, [first, ("t", Jar(6, 1, 1), second[2])]),
            Plan(LANES, [first, ("t", Jar(5, 1, 2), second[2])]),
            Plan(LANES, [("s", Jar(9, 1, 5), first[2]), second]),
            Plan(LANES, [first, ("t", second[1], [("b", 8)])]),
            Plan(LANES, [first, ("t", second[1], [("a", 7)])]),
            Plan(LANES, [first, ("t", second[1], [("b", 7), ("a", 1)])]),
            Plan(LANES, [("s", first[1], [("b", 3), ("a", 2)]), second]),
        ]
        for at, other in enumerate(others):
            self.assertFalse(Plan(LANES, STREAMS) == other, at)
            self.assertTrue(Plan(LANES, STREAMS) != other, at)

    def test_a_lane_of_another_name(self):
        self.assertFalse(Plan([("a", 3)], []) == Plan([("b", 3)], []))

    def test_equal_to_nothing_else(self):
        plan = Plan(LANES, STREAMS)
        for other in [(plan.lanes, plan.streams), [plan.lanes, plan.streams], plan.lanes, None, "", 0, {}, []]:
            self.assertFalse(plan == other)
            self.assertTrue(plan != other)
            self.assertFalse(other == plan)
        for other in [([], []), [], None, "", 0]:
            self.assertFalse(Plan([], []) == other)


if __name__ == "__main__":
    unittest.main()
