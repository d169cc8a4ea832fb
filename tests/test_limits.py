"""[7.1] to [7.3] and [0.2] (c): each limit that is told is let by, and one step beyond it is refused."""

import copy
import random
import unittest

from hourlanes.errors import LaneError, NoJar, NoWay, TooMuch, Unknown
from hourlanes.flows import Flow
from hourlanes.house import House
from hourlanes.jars import Jar
from hourlanes.judging import over
from hourlanes.limits import greatest, greatest_size, least, least_wait, least_width, longest_shut, quickest
from tests.counts import looks
from tests.drawn import Run, tried
from tests.some_scenes import some_jar

TOP = 10 ** 9


class Asked:
    """A function to be handed on, which keeps what it was asked."""

    def __init__(self, good):
        self.good = good
        self.numbers = []

    def __call__(self, number):
        self.numbers.append(number)
        return self.good(number)


class SearchTest(unittest.TestCase):
    def searched(self, search, low, high, good):
        asked = Asked(good)
        told = search(low, high, asked)
        self.assertLessEqual(len(asked.numbers), 70)
        self.assertTrue(all(low <= number <= high for number in asked.numbers), asked.numbers)
        return told

    def test_all_bounds_of_small_stretches(self):
        for low in range(-2, 3):
            for high in range(low - 2, low + 9):
                for bound in range(low - 1, high + 3):
                    numbers = range(low, high + 1)
                    firsts = [number for number in numbers if number >= bound]
                    self.assertEqual(self.searched(least, low, high, lambda number, bound=bound: number >= bound),
                                     firsts[0] if firsts else None)
                    lasts = [number for number in numbers if number <= bound]
                    self.assertEqual(self.searched(greatest, low, high, lambda number, bound=bound: number <= bound),
                                     lasts[-1] if lasts else None)

    def test_stretches_of_one_number_and_of_none(self):
        self.assertEqual(self.searched(least, 5, 5, lambda number: True), 5)
        self.assertEqual(self.searched(greatest, 5, 5, lambda number: True), 5)
        self.assertIsNone(self.searched(least, 5, 5, lambda number: False))
        self.assertIsNone(self.searched(greatest, 5, 5, lambda number: False))
        for high in [4, 0, -9]:
            self.assertIsNone(self.searched(least, 5, high, lambda number: True))
            self.assertIsNone(self.searched(greatest, 5, high, lambda number: True))

    def test_wide_stretches(self):
        wide = 10 ** 18
        for low in [0, 1, 7, -wide, 10 ** 40]:
            for bound in [low, low + 1, low + 12345678901234567, low + wide // 2, low + wide - 1, low + wide]:
                self.assertEqual(self.searched(least, low, low + wide, lambda number, at=bound: number >= at), bound)
                self.assertEqual(self.searched(greatest, low, low + wide, lambda number, at=bound: number <= at),
                                 bound)
            self.assertIsNone(self.searched(least, low, low + wide, lambda number: False))
            self.assertIsNone(self.searched(greatest, low, low + wide, lambda number: False))
            self.assertEqual(self.searched(least, low, low + wide, lambda number: True), low)
            self.assertEqual(self.searched(greatest, low, low + wide, lambda number: True), low + wide)

    def test_by_their_names(self):
        self.assertEqual(least(low=1, high=9, good=lambda number: number > 3), 4)
        self.assertEqual(greatest(low=1, high=9, good=lambda number: number < 3), 2)


def one_lane(width=3, *streams):
    house = House()
    house.build("a", width)
    for name, numbers, wait in streams:
        house.let_in(name, Jar(*numbers), [("a", wait)])
    return house


class LimitsTest(unittest.TestCase):
    def assert_done(self, house, word, *given):
        self.assertIsNone(tried(copy.deepcopy(house), word, *given), (word, given))

    def assert_too_much(self, house, word, *given):
        self.assertIs(type(tried(copy.deepcopy(house), word, *given)), TooMuch, (word, given))


class LeastWaitTest(LimitsTest):
    def test_some(self):
        house = one_lane(3, ("x", (4, 1, 4), 2))
        self.assertEqual(least_wait(house, "a", Jar(1, 1, 1)), 1)
        self.assertEqual(least_wait(house, "a", Jar(2, 2, 2)), 2)
        self.assertEqual(least_wait(house=house, lane="a", jar=Jar(2, 2, 2), after=7), 2)
        self.assertEqual(least_wait(one_lane(3), "a", Jar(3, 3, 3)), 1)

    def test_none(self):
        self.assertIsNone(least_wait(one_lane(3), "a", Jar(4, 4, 4)))
        self.assertIsNone(least_wait(one_lane(3, ("x", (3, 3, 3), 1)), "a", Jar(1, 1, 1)))

    def test_the_greatest_and_beyond(self):
        house = one_lane(1)
        self.assertEqual(least_wait(house, "a", Jar(TOP, 1, TOP)), TOP)
        house.shut("a", 1)
        self.assertIsNone(least_wait(house, "a", Jar(TOP, 1, TOP)))
        self.assertEqual(least_wait(house, "a", Jar(TOP, 1, TOP), 1), TOP)

    def test_after_counts_what_is_known(self):
        house = one_lane(2, ("x", (6, 1, 6), 4))
        house.tick({"x": 6})
        house.let_go("x")
        self.assertEqual(house.scene("a").known_rows(), [(1, 4, 4)])
        self.assertEqual([least_wait(house, "a", Jar(2, 1, 2), after) for after in range(4)], [3, 2, 1, 1])

    def test_refused(self):
        with self.assertRaises(Unknown) as caught:
            least_wait(one_lane(), "b", Jar(1, 1, 1), 0)
        self.assertEqual(caught.exception.name, "b")

    def test_drawn_houses(self):
        seen = {None: 0, 1: 0}
        for seed in range(60):
            house, chance = drawn_house(seed)
            for lane in ["a", "b", "mid"]:
                jar, after = Jar(*some_jar(chance, 5)), chance.choice([0, 0, 1, 5])
                wait = least_wait(house, lane, jar, after)
                scene = house.scene(lane)
                if wait is None:
                    self.assertIsNotNone(over(scene.with_ask(Flow(jar), after, TOP)))
                    self.assert_too_much(house, "let_in", "new", jar, [(lane, TOP)])
                else:
                    self.assertIsNone(over(scene.with_ask(Flow(jar), after, wait)))
                    for less in [1, wait // 2, wait - 1]:
                        if 1 <= less < wait:
                            self.assertIsNotNone(over(scene.with_ask(Flow(jar), after, less)))
                    self.assert_steps(house, lane, jar, after, wait)
                seen[wait] = seen.get(wait, 0) + 1
        self.assertGreater(min(seen[None], seen[1], len(seen)), 4, seen)

    def assert_steps(self, house, lane, jar, after, wait):
        """The told wait by the house's own letting in, behind a lane that is wide enough."""
        wide = copy.deepcopy(house)
        wide.build("wide", TOP)
        way = [("wide", after)] if after else []
        self.assert_done(wide, "let_in", "new", jar, [*way, (lane, wait)])
        if wait > 1:
            self.assert_too_much(wide, "let_in", "new", jar, [*way, (lane, wait - 1)])


def drawn_house(seed, size=5):
    run = Run(random.Random(1200 + seed), size=size, waits=8)
    for _ in range(45):
        run.go_on()
    return run.house, run.chance


class QuickestTest(LimitsTest):
    def test_some(self):
        house = one_lane(3, ("x", (4, 1, 4), 2))
        house.build("b", 1)
        jar = Jar(4, 1, 2)
        self.assertEqual(quickest(house, jar, ["b"]), [("b", 4)])
        told = quickest(house=house, jar=jar, lanes=("b", "a"))
        self.assertEqual(told, [("b", 4), ("a", least_wait(house, "a", jar, 4))])
        self.assertIsInstance(told, list)

    def test_none_where_a_leg_has_none(self):
        house = one_lane(3)
        house.build("b", 1)
        house.build("c", 3)
        self.assertIsNone(quickest(house, Jar(2, 2, 2), ["b"]))
        self.assertIsNone(quickest(house, Jar(2, 2, 2), ["a", "b", "c"]))
        self.assertEqual(quickest(house, Jar(2, 2, 2), ["a", "c"]), [("a", 1), ("c", 1)])

    def test_refused_as_a_way(self):
        house = House()
        for name in "abcde":
            house.build(name, 1)
        for lanes, place in [([], 0), (["x"], 0), (["a", "x"], 1), (["a", "b", "a"], 2), (list("abcde"), 4),
                             (["a", "b", "c", "d", "d"], 4), (["a", "a", "x"], 1)]:
            with self.assertRaises(NoWay) as caught:
                quickest(house, Jar(2, 2, 2), lanes)
            self.assertEqual(caught.exception.place, place, lanes)

    def test_drawn_houses(self):
        seen = 0
        for seed in range(40):
            house, chance = drawn_house(100 + seed)
            jar = Jar(*some_jar(chance, 3))
            lanes = chance.sample(["a", "b", "mid"], chance.randrange(1, 4))
            way = quickest(house, jar, list(lanes))
            if way is not None:
                seen += 1
                self.assertEqual([lane for lane, wait in way], lanes)
                self.assert_done(house, "let_in", "new", jar, way)
                for place, (lane, wait) in enumerate(way):
                    if wait > 1:
                        shorter = [*way[:place], (lane, wait - 1)]
                        self.assert_too_much(house, "let_in", "new", jar, shorter)
        self.assertGreater(seen, 10)


class GreatestSizeTest(LimitsTest):
    def test_some(self):
        house = one_lane(3)
        self.assertEqual(greatest_size(house, 1, 9, [("a", 4)]), 14)
        self.assertEqual(greatest_size(house=house, rate=1, mouth=1, way=[("a", 1)]), TOP)
        self.assertEqual(greatest_size(house, 3, 3, (("a", 1),)), TOP)
        self.assertEqual(greatest_size(house, 1, TOP, [("a", TOP)]), TOP)

    def test_none(self):
        house = one_lane(3)
        self.assertIsNone(greatest_size(house, 4, 4, [("a", TOP)]))
        self.assertIsNone(greatest_size(house, 1, 4, [("a", 1)]))
        self.assertEqual(greatest_size(house, 1, 4, [("a", 2)]), 12)

    def test_all_lanes_of_the_way_count(self):
        house = one_lane(9)
        house.build("b", 2)
        self.assertEqual(greatest_size(house, 1, 5, [("a", 1), ("b", 7)]), 18)
        self.assertEqual(greatest_size(house, 1, 5, [("b", 7), ("a", 1)]), 18)

    def test_refused_in_their_order(self):
        house = one_lane(3)
        for rate, mouth in [(0, 1), (2, 1), (1, TOP + 1), (-1, 4), (0, 0), (TOP + 1, TOP + 1)]:
            with self.assertRaises(NoJar):
                greatest_size(house, rate, mouth, [])
        for way, place in [([], 0), ([("b", 1)], 0), ([("a", 1), ("a", 1)], 1), ([("a", 0)], 0)]:
            with self.assertRaises(NoWay) as caught:
                greatest_size(house, 4, 4, way)
            self.assertEqual(caught.exception.place, place)

    def test_drawn_houses(self):
        seen = {"none": 0, "top": 0, "else": 0}
        for seed in range(60):
            house, chance = drawn_house(200 + seed)
            size, rate, mouth = some_jar(chance, 4)
            way = [(lane, chance.randrange(1, 9)) for lane in chance.sample(["a", "b", "mid"], chance.randrange(1, 3))]
            size = greatest_size(house, rate, mouth, way)
            if size is None:
                self.assert_too_much(house, "let_in", "new", Jar(mouth, rate, mouth), way)
                seen["none"] += 1
                continue
            self.assert_done(house, "let_in", "new", Jar(size, rate, mouth), way)
            self.assertTrue(mouth <= size <= TOP)
            if size < TOP:
                self.assert_too_much(house, "let_in", "new", Jar(size + 1, rate, mouth), way)
            seen["top" if size == TOP else "else"] += 1
        self.assertGreater(min(seen.values()), 3, seen)


class WidthAndShutTest(LimitsTest):
    def test_some(self):
        house = one_lane(5, ("x", (8, 1, 8), 4))
        self.assertEqual(least_width(house, "a"), 2)
        self.assertEqual(longest_shut(house, "a"), 2)
        self.assertEqual((least_width(house=house, lane="a"), longest_shut(house=house, lane="a")), (2, 2))
        house.shut("a", 2)
        self.assertEqual((least_width(house, "a"), longest_shut(house, "a")), (4, 2))

    def test_at_their_bounds(self):
        house = one_lane(5)
        self.assertEqual((least_width(house, "a"), longest_shut(house, "a")), (1, TOP))
        house.tick()
        house.shut("a", TOP)
        self.assertEqual((least_width(house, "a"), longest_shut(house, "a")), (1, TOP))
        great = one_lane(TOP, ("x", (TOP, TOP, TOP), 1))
        self.assertEqual((least_width(great, "a"), longest_shut(great, "a")), (TOP, 0))

    def test_a_lane_that_is_shut_already(self):
        house = one_lane(5, ("x", (1, 1, 1), 9))
        house.shut("a", 6)
        self.assertEqual(longest_shut(house, "a"), 8)
        house.tick({"x": 1})
        self.assertEqual(longest_shut(house, "a"), 7)
        house.let_go("x")
        house.shut("a", 6)
        self.assertEqual(longest_shut(house, "a"), 7)

    def test_refused(self):
        for ask in [least_width, longest_shut]:
            with self.assertRaises(Unknown) as caught:
                ask(one_lane(3, ("x", (1, 1, 1), 1)), "x")
            self.assertEqual(caught.exception.name, "x")

    def test_drawn_houses(self):
        for seed in range(60):
            house, chance = drawn_house(300 + seed, [5, TOP][seed % 2])
            for lane in ["a", "b", "mid"]:
                width, ticks = least_width(house, lane), longest_shut(house, lane)
                self.assert_done(house, "widen", lane, width)
                if width > 1:
                    self.assert_too_much(house, "widen", lane, width - 1)
                self.assert_done(house, "shut", lane, ticks)
                if ticks < TOP:
                    self.assert_too_much(house, "shut", lane, ticks + 1)


def full_house(chance):
    """Six lanes, eight streams with four legs each, and about 60 lots under way, of numbers up to 10 ** 9."""
    house = House()
    for name in "abcdef":
        house.build(name, TOP)
    names = list("stuvwxyz")
    while names:
        size = chance.randrange(10 ** 5, TOP)
        mouth = chance.randrange(1, size)
        jar = Jar(size, chance.randrange(1, min(mouth, 10 ** 8) + 1), mouth)
        way = [(lane, chance.choice([1, 20, 10 ** 3, TOP])) for lane in chance.sample("abcdef", 4)]
        if tried(house, "let_in", names[0], jar, way) is None:
            names.pop(0)
    while len(house.lot_rows()) < 53:
        house.tick({row[0]: chance.randrange(house.most_of(row[0]) + 1) for row in house.stream_rows()})
    return house


class FullHouseTest(LimitsTest):
    def test_limits_of_houses_at_their_bounds(self):
        for seed in range(5):
            house = full_house(random.Random(seed))
            for lane in "abcdef":
                width, ticks = least_width(house, lane), longest_shut(house, lane)
                self.assert_done(house, "widen", lane, width)
                if width > 1:
                    self.assert_too_much(house, "widen", lane, width - 1)
                self.assert_done(house, "shut", lane, ticks)
                if ticks < TOP:
                    self.assert_too_much(house, "shut", lane, ticks + 1)
            for lane in "abcdef":
                house.widen(lane, least_width(house, lane) + 10 ** 5)
            way = quickest(house, Jar(10 ** 8, 10 ** 3, 10 ** 7), list("fabc"))
            self.assert_done(house, "let_in", "new", Jar(10 ** 8, 10 ** 3, 10 ** 7), way)
            size = greatest_size(house, 10 ** 3, 10 ** 7, way)
            self.assertGreaterEqual(size, 10 ** 8)
            self.assert_done(house, "let_in", "new", Jar(size, 10 ** 3, 10 ** 7), way)
            if size < TOP:
                self.assert_too_much(house, "let_in", "new", Jar(size + 1, 10 ** 3, 10 ** 7), way)


class AskingTest(LimitsTest):
    def test_asking_changes_nothing(self):
        for seed in range(10):
            house, chance = drawn_house(400 + seed)
            ahead = looks(house)
            jar, lanes, way = Jar(4, 1, 2), ["b", "a"], [("b", 4), ("a", 5)]
            for ask in [lambda: least_wait(house, "a", jar, 2), lambda: quickest(house, jar, lanes),
                        lambda: greatest_size(house, 1, 2, way), lambda: least_width(house, "a"),
                        lambda: longest_shut(house, "a"), lambda: quickest(house, jar, ["x"]),
                        lambda: least_wait(house, "x", jar), lambda: greatest_size(house, 2, 1, way)]:
                try:
                    ask()
                except LaneError:
                    pass
                self.assertEqual(looks(house), ahead)
            self.assertEqual((jar, lanes, way), (Jar(4, 1, 2), ["b", "a"], [("b", 4), ("a", 5)]))


if __name__ == "__main__":
    unittest.main()
