"""[6.8] and [0.2] (e): houses raised of plans, and plans of houses."""

import random
import unittest

from hourlanes.errors import TooMuch
from hourlanes.house import House
from hourlanes.jars import Jar
from hourlanes.plans import Plan
from hourlanes.raising import plan_now, raised
from hourlanes.reading import plan_of, written
from tests.counts import looks
from tests.drawn import Run

PLAN = Plan([("b", 9), ("a", 4)], [("y", Jar(4, 1, 2), [("a", 3), ("b", 4)]), ("a", Jar(2, 2, 2), [("b", 10 ** 9)])])


class RaisingTest(unittest.TestCase):
    def test_a_house_of_a_plan(self):
        house = raised(plan=PLAN)
        self.assertIsInstance(house, House)
        self.assertEqual(house.now, 0)
        self.assertEqual(house.lane_rows(), [("b", 9, 0), ("a", 4, 0)])
        self.assertEqual(house.stream_rows(), [("y", (4, 1, 2), 4, (("a", 3), ("b", 4))),
                                               ("a", (2, 2, 2), 2, (("b", 10 ** 9),))])
        self.assertEqual(house.book(), [("build", "b", 9), ("build", "a", 4),
                                        ("in", "y", (4, 1, 2), (("a", 3), ("b", 4))),
                                        ("in", "a", (2, 2, 2), (("b", 10 ** 9),))])
        self.assertEqual(plan_now(house=house), PLAN)

    def test_an_empty_plan(self):
        house = raised(Plan([], []))
        self.assertEqual((house.lane_rows(), house.stream_rows(), house.book()), ([], [], []))
        self.assertEqual(plan_now(house), Plan([], []))

    def test_each_house_is_a_new_one(self):
        one, other = raised(PLAN), raised(PLAN)
        one.tick({"y": 2})
        one.let_go("a")
        self.assertEqual(looks(other), looks(raised(PLAN)))
        self.assertEqual([row[0] for row in PLAN.streams], ["y", "a"])

    def test_a_house_of_the_text_that_is_written_of_a_plan(self):
        self.assertEqual(looks(raised(plan_of(written(PLAN)))), looks(raised(PLAN)))

    def test_drawn_houses(self):
        for seed in range(40):
            run = Run(random.Random(1000 + seed), size=[5, 10 ** 9][seed % 2])
            for _ in range(40):
                run.go_on()
            plan = plan_now(run.house)
            self.assertEqual(plan.lanes, [tuple(lane[:2]) for lane in run.count.lanes])
            self.assertEqual([(name, jar.told(), way) for name, jar, way in plan.streams],
                             [(name, numbers, way) for name, numbers, marks, way in run.count.streams])
            self.assertEqual(plan_of(written(plan)), plan)

    def test_plans_of_what_can_be_let_in_at_once(self):
        for seed in range(40):
            run = Run(random.Random(1100 + seed), size=6)
            for _ in range(40):
                row = run.drawn()
                if row[0] == "in":
                    try:
                        run.do(*row)
                    except TooMuch:
                        pass
            plan = plan_now(run.house)
            house = raised(plan)
            self.assertEqual(plan_now(house), plan)
            self.assertEqual(looks(house), looks(run.house))

    def test_asking_for_the_plan_changes_nothing(self):
        house = raised(PLAN)
        house.tick({"y": 1})
        ahead = looks(house)
        plan_now(house).lanes.clear()
        plan_now(house).streams.clear()
        self.assertEqual(looks(house), ahead)
        self.assertEqual(plan_now(house), PLAN)

    def test_too_much(self):
        streams = [("x", Jar(3, 1, 3), [("b", 1), ("a", 3)]), ("y", Jar(9, 1, 9), [("b", 9), ("a", 2)]),
                   ("z", Jar(99, 99, 99), [("b", 9)])]
        with self.assertRaises(TooMuch) as caught:
            raised(Plan([("a", 2), ("b", 9)], streams))
        refusal = caught.exception
        self.assertEqual(refusal.lane, "a")
        self.assertLessEqual({row[0] for row in refusal.rows}, {"x", "y"})
        self.assertIn("y", [row[0] for row in refusal.rows])


if __name__ == "__main__":
    unittest.main()
