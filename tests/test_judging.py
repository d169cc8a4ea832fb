"""[4.3]: stretches in which more must be carried than can be."""

import random
import unittest

from hourlanes.carrying import tight
from hourlanes.flows import Flow
from hourlanes.futures import future
from hourlanes.jars import Jar
from hourlanes.judging import over
from hourlanes.scenes import Scene
from tests import some_scenes

TOP = 10 ** 9
HUGE = 10 ** 40


def is_over(scene, first, end):
    return scene.need(first, end) > scene.holds(first, end)


def over_nearby(scene, ticks):
    firsts = range(scene.now, scene.now + ticks)
    return any(is_over(scene, first, end) for first in firsts for end in range(first + 1, first + ticks))


def single(numbers, marks, after, wait, width, opens=0, now=0):
    return Scene(width, now, [], [(Flow(Jar(*numbers), marks), after, wait)], opens)


class OverTest(unittest.TestCase):
    def assert_over(self, scene):
        found = over(scene)
        self.assertIsInstance(found, tuple)
        first, end = found
        self.assertTrue(scene.now <= first < end, found)
        self.assertGreater(scene.need(first, end), scene.holds(first, end))

    def test_all_stretches_of_small_scenes(self):
        chance = random.Random(31)
        seen = {"none": 0, "rates": 0, "else": 0}
        for _ in range(1500):
            numbers = some_scenes.small(chance)
            scene = some_scenes.made(*numbers)
            rates = sum(ask[0][1] for ask in numbers[3])
            if over(scene) is None:
                self.assertLessEqual(rates, numbers[0])
                self.assertFalse(over_nearby(scene, 36), numbers)
                seen["none"] += 1
            else:
                self.assert_over(scene)
                seen["rates" if rates > numbers[0] else "else"] += 1
        self.assertGreater(min(seen.values()), 100, seen)

    def test_the_future_of_a_stretch_that_is_told_can_not_be_carried(self):
        chance = random.Random(32)
        seen = 0
        for _ in range(800):
            width, now, knowns, asks, opens = some_scenes.small(chance)
            scene = some_scenes.made(width, now, knowns, asks, 0)
            found = over(scene)
            if found is None or found[1] > now + 300:
                continue
            lots = list(knowns)
            for place, tick, ticks, many in future(scene, *found):
                numbers, marks, after, wait = asks[place]
                lots += [(door + after, door + after + wait, many) for door in range(tick, tick + ticks)]
            self.assertIsNotNone(tight(width, lots))
            seen += 1
        self.assertGreater(seen, 200)

    def test_no_future_is_too_much_where_none_is_told(self):
        chance = random.Random(33)
        seen = 0
        for _ in range(300):
            width, now, knowns, asks, opens = some_scenes.small(chance)
            if over(some_scenes.made(width, now, knowns, asks, 0)) is not None:
                continue
            for _ in range(10):
                lots = list(knowns)
                for numbers, marks, after, wait in asks:
                    flow = Flow(Jar(*numbers), marks)
                    for door in range(now, now + 20):
                        many = chance.choice([0, flow.may(), flow.may()])
                        flow.come(many)
                        lots += [(door + after, door + after + wait, many)] * (many > 0)
                self.assertIsNone(tight(width, lots))
                seen += 1
        self.assertGreater(seen, 500)

    def test_no_knowns_and_no_asks(self):
        for opens in [0, 5, HUGE]:
            self.assertIsNone(over(Scene(1, 0, [], [], opens)))
            self.assertIsNone(over(Scene(TOP, HUGE, [], [], opens)))

    def test_knowns_alone(self):
        self.assertIsNone(over(Scene(3, 5, [(5, 7, 6)], [])))
        self.assert_over(Scene(3, 5, [(5, 7, 7)], []))
        self.assertIsNone(over(Scene(3, 5, [(5, 7, 5), (6, 7, 1)], [])))
        self.assert_over(Scene(3, 5, [(5, 7, 3), (6, 7, 4)], []))
        self.assertIsNone(over(Scene(3, 0, [(HUGE, HUGE + 2, 6)], [])))
        self.assert_over(Scene(3, 0, [(HUGE, HUGE + 2, 7)], []))
        self.assertIsNone(over(Scene(1, 0, [(0, HUGE, HUGE - 1), (HUGE - 1, HUGE, 1)], [])))
        self.assert_over(Scene(1, 0, [(0, HUGE, HUGE), (HUGE - 1, HUGE, 1)], []))

    def test_like_tight_for_knowns_alone(self):
        chance = random.Random(34)
        for _ in range(600):
            knowns = [some_scenes.some_known(chance, 0, 8, 7) for _ in range(chance.randrange(7))]
            for width in [1, 2, 4]:
                self.assertEqual(over(Scene(width, 0, knowns, [])) is None, tight(width, knowns) is None)

    def test_opens_far_off(self):
        known = [(0, HUGE, 10)]
        self.assertIsNone(over(Scene(5, 0, known, [], HUGE - 2)))
        self.assert_over(Scene(5, 0, known, [], HUGE - 1))
        self.assert_over(Scene(5, 0, known, [], HUGE))
        self.assert_over(Scene(5, 0, known, [], 2 * HUGE))
        self.assert_over(single((1, 1, 1), 0, 0, TOP, TOP, opens=HUGE))
        self.assert_over(single((1, 1, 1), 0, 0, 1, TOP, opens=1, now=0).with_ask(Flow(Jar(1, 1, 1)), 0, 1))
        self.assertIsNone(over(single((1, 1, 1), 0, 3, 1, 1, opens=3)))
        self.assert_over(single((1, 1, 1), 1, 3, 1, 1, opens=4))

    def test_a_shut_lane_catches_up(self):
        for shut in range(30):
            scene = single((4, 1, 2), 4, 0, 20, 3, opens=shut)
            self.assertEqual(over(scene) is not None, over_nearby(scene, 70), shut)

    def test_rates_below_at_and_above_the_width(self):
        for marks in [0, 5, 9]:
            for after in [0, 7, TOP]:
                for width in [3, 4, 100]:
                    self.assertIsNone(over(single((9, 3, 3), marks, after, 1, width)))
                for width in [1, 2]:
                    self.assert_over(single((9, 3, 3), marks, after, 1, width))
                    self.assert_over(single((9, 3, 3), marks, after, TOP, width))
        jar = Jar(TOP, TOP, TOP)
        asks = [(Flow(jar, 0), TOP, TOP), (Flow(Jar(1, 1, 1), 0), 0, TOP)]
        self.assert_over(Scene(TOP, 0, [], asks))
        self.assertIsNone(over(Scene(TOP, 0, [], asks[:1])))
        self.assert_over(Scene(TOP, HUGE, [], asks, 2 * HUGE))

    def test_rates_just_above_with_long_waits(self):
        for waits in [(1, TOP), (TOP, TOP), (TOP, 1)]:
            asks = [(Flow(Jar(TOP, 500, 10 ** 6), 0), HUGE, waits[0]), (Flow(Jar(TOP, 501, 502)), 3, waits[1])]
            self.assert_over(Scene(1000, 7, [], asks))
            self.assert_over(Scene(1000, 7, [(9, HUGE, 5)], asks, 10 ** 30))

    def test_the_least_width_of_one_stream(self):
        chance = random.Random(35)
        for _ in range(300):
            numbers = some_scenes.some_jar(chance, chance.choice([9, 1000, TOP]))
            wait = chance.choice([1, 2, chance.randrange(1, 1000), chance.randrange(1, TOP)])
            size, rate, mouth = numbers
            flow = Flow(Jar(*numbers))
            loss = mouth - rate
            lengths = [1] + ([(size - rate) // loss, (size - rate) // loss + 1] if loss else [])
            wanted = max([rate] + [-(-flow.most(0, ticks) // (ticks + wait - 1)) for ticks in lengths if ticks > 0])
            for marks in [0, size]:
                after, now = chance.choice([0, 5, HUGE]), chance.choice([0, HUGE])
                self.assertIsNone(over(single(numbers, marks, after, wait, wanted, now=now)), (numbers, wait))
                if wanted > 1:
                    self.assert_over(single(numbers, marks, after, wait, wanted - 1, now=now))

    def test_something_known_in_the_midst_of_a_burst(self):
        scene = Scene(2, 0, [(100, 105, 6)], [(Flow(Jar(10, 1, 10)), 0, 8)])
        self.assertIsNone(over(scene))
        self.assert_over(Scene(2, 0, [(100, 105, 7)], [(Flow(Jar(10, 1, 10)), 0, 8)]))

    def test_a_flow_that_is_full_only_later(self):
        self.assert_over(single((10, 1, 10), 0, 0, 1, 9))
        self.assertIsNone(over(single((10, 1, 10), 0, 0, 1, 10)))
        self.assert_over(single((TOP, 1, TOP), 0, HUGE, 1, TOP - 1))
        self.assertIsNone(over(single((TOP, 1, TOP), 0, HUGE, 1, TOP)))

    def test_each_thing_alone_is_borne_but_not_all_together(self):
        asks = [(Flow(Jar(4, 1, 4)), 0, 4), (Flow(Jar(4, 1, 4), 0), 0, 4)]
        known = [(20, 24, 4)]
        self.assertIsNone(over(Scene(2, 0, known, asks[:1])))
        self.assertIsNone(over(Scene(2, 0, [], asks)))
        self.assert_over(Scene(2, 0, known, asks))

    def test_the_scene_stays(self):
        scene = Scene(2, 0, [(20, 24, 4)], [(Flow(Jar(4, 1, 4), 2), 0, 4)], 3)
        over(scene=scene)
        self.assertEqual((scene.width, scene.now, scene.opens, scene.known_rows()), (2, 0, 3, [(20, 24, 4)]))
        self.assertEqual([flow.marks for flow, after, wait in scene.ask_rows()], [2])


def great_scene(chance, width):
    now = chance.choice([0, HUGE])
    knowns = []
    for _ in range(60):
        come = now + chance.choice([0, chance.randrange(TOP), chance.randrange(HUGE)])
        knowns.append((come, come + chance.randrange(1, chance.choice([100, TOP, HUGE])), chance.randrange(1, TOP)))
    asks = []
    for _ in range(9):
        size, rate, mouth = some_scenes.some_jar(chance, TOP)
        jar = Jar(size, max(1, rate // 10), mouth)
        asks.append((Flow(jar, chance.randrange(size)), chance.randrange(HUGE), chance.randrange(1, TOP)))
    return Scene(width, now, knowns, asks, chance.choice([0, now + chance.randrange(TOP)]))


def told_stretches(scene):
    """The stretches of which the document says that it is enough to look at them."""
    knowns, asks = scene.known_rows(), scene.ask_rows()
    firsts = [scene.now] + [come for come, hour, many in knowns]
    fills = [scene.now + after + flow.jar.size - flow.marks for flow, after, wait in asks]
    firsts.append(max(firsts + [scene.opens] + fills))
    for first in firsts:
        ends = [scene.opens] + [hour for come, hour, many in knowns]
        for flow, after, wait in asks:
            start = max(scene.now, first - after)
            loss = flow.jar.mouth - flow.jar.rate
            wide = (flow.ahead(start - scene.now) - flow.jar.rate) // loss if loss else 0
            ends += [start + ticks - 1 + after + wait for ticks in [1, 2, max(1, wide), max(1, wide + 1)]]
        yield from [(first, end) for end in ends if end > first]


class GreatTest(unittest.TestCase):
    def test_sixty_known_things_and_nine_asks(self):
        chance = random.Random(36)
        seen = {True: 0, False: 0}
        for turn in range(12):
            scene = great_scene(chance, TOP)
            # The least width is looked for, as there a single piece tells one from the other.
            low, high = 1, 10 ** 22
            while low < high:
                mid = (low + high) // 2
                if over(scene.with_width(mid)) is None:
                    high = mid
                else:
                    low = mid + 1
            for width in [low - 1, low]:
                at = scene.with_width(width)
                found = over(at)
                seen[found is None] += 1
                if found is None:
                    self.assertEqual([each for each in told_stretches(at) if is_over(at, *each)], [])
                elif width > 0:
                    self.assertTrue(at.now <= found[0] < found[1])
                    self.assertTrue(is_over(at, *found), (turn, width))
        self.assertGreater(min(seen.values()), 5, seen)

    def test_random_stretches_where_none_is_over(self):
        chance = random.Random(37)
        seen = 0
        for _ in range(20):
            scene = great_scene(chance, 10 ** 12)
            if over(scene) is not None:
                continue
            seen += 1
            for _ in range(300):
                first = scene.now + chance.randrange(chance.choice([100, TOP, HUGE]))
                end = first + chance.randrange(1, chance.choice([100, TOP, HUGE]))
                self.assertFalse(is_over(scene, first, end))
        self.assertGreater(seen, 5)


if __name__ == "__main__":
    unittest.main()
