"""[2.1] to [2.3], against walks piece by piece and tick by tick."""

import itertools
import random
import unittest

from hourlanes.carrying import carried, ran, tight
from hourlanes.errors import NoLot
from tests import walks

HUGE = 10 ** 38
WRONG = [(-1, 5, 1), (-HUGE, 5, 1), (5, 5, 1), (5, 4, 1), (0, 0, 1), (5, -5, 1), (HUGE, HUGE, 1),
         (0, 5, 0), (0, 5, -1), (0, 5, -HUGE), (-1, -1, 0)]
GOOD = [(0, 3, 2), (1, 2, 1), (4, 9, 7)]


def random_lots(chance, most_lots, ticks, pieces):
    lots = []
    for _ in range(chance.randrange(most_lots + 1)):
        come = chance.randrange(ticks)
        lots.append((come, chance.randrange(come + 1, ticks + 2), chance.randrange(1, pieces + 1)))
    return lots


def over_at(width, lots, first, end):
    pieces = sum(many for come, hour, many in lots if come >= first and hour <= end)
    return pieces > width * (end - first)


def over_somewhere(width, lots):
    ends = range(max([hour for come, hour, many in lots], default=0) + 1)
    return any(over_at(width, lots, first, end) for first in ends for end in ends if first < end)


class CarriedTest(unittest.TestCase):
    def test_like_one_piece_after_another(self):
        for pairs in itertools.product(itertools.product(range(3), range(4)), repeat=3):
            for width in range(1, 12):
                wanted = walks.carried_piece_by_piece(width, list(pairs))
                self.assertEqual(carried(width, list(pairs)), wanted, (width, pairs))

    def test_a_longer_heap(self):
        chance = random.Random(1)
        for _ in range(300):
            heap = [(chance.randrange(6), chance.choice([0, 0, 1, 3, 9])) for _ in range(chance.randrange(61))]
            for width in [1, 2, 7, sum(many for hour, many in heap) + chance.randrange(-2, 3)]:
                if width > 0:
                    self.assertEqual(carried(width, heap), walks.carried_piece_by_piece(width, heap))

    def test_width_below_at_and_above_all(self):
        heap = [(7, 4), (5, 3), (7, 2), (5, 0)]
        self.assertEqual(carried(2, heap), [0, 2, 0, 0])
        self.assertEqual(carried(3, heap), [0, 3, 0, 0])
        self.assertEqual(carried(8, heap), [4, 3, 1, 0])
        self.assertEqual(carried(9, heap), [4, 3, 2, 0])
        self.assertEqual(carried(10, heap), [4, 3, 2, 0])
        self.assertEqual(carried(10 ** 9, heap), [4, 3, 2, 0])

    def test_of_one_hour_the_first_in_the_heap(self):
        self.assertEqual(carried(5, [(1, 3), (1, 3), (1, 3)]), [3, 2, 0])
        self.assertEqual(carried(5, [(2, 9), (1, 1), (2, 9), (1, 1)]), [3, 1, 0, 1])

    def test_many_nought(self):
        self.assertEqual(carried(4, [(0, 0), (9, 4), (1, 0)]), [0, 4, 0])
        self.assertEqual(carried(4, [(0, 0), (0, 0)]), [0, 0])

    def test_an_empty_heap(self):
        self.assertEqual(carried(4, []), [])

    def test_great_hours_and_numbers(self):
        heap = [(HUGE, HUGE), (HUGE - 1, 3), (HUGE, 1)]
        self.assertEqual(carried(10 ** 9, heap), [10 ** 9 - 3, 3, 0])
        self.assertEqual(carried(HUGE + 3, heap), [HUGE, 3, 0])
        self.assertEqual(carried(HUGE + 4, heap), [HUGE, 3, 1])
        self.assertEqual(carried(2 * HUGE, heap), [HUGE, 3, 1])

    def test_the_heap_stays_and_the_list_is_new(self):
        heap = [(3, 2), (1, 5), (2, 0)]
        parts = carried(width=4, heap=heap)
        self.assertEqual(heap, [(3, 2), (1, 5), (2, 0)])
        self.assertIsInstance(parts, list)
        parts.append(9)
        self.assertEqual(carried(4, heap), [0, 4, 0])


class RanTest(unittest.TestCase):
    def test_like_a_walk(self):
        chance = random.Random(2)
        for _ in range(1500):
            lots = random_lots(chance, 6, 12, 7)
            for width in [1, 2, 3, 5, 100]:
                self.assertEqual(ran(width, lots), walks.ran_tick_by_tick(width, lots), (width, lots))

    def test_up_to_its_bounds(self):
        chance = random.Random(3)
        for _ in range(20):
            lots = random_lots(chance, 60, 299, 10)
            for width in [1, 3, 600]:
                self.assertEqual(ran(width, lots), walks.ran_tick_by_tick(width, lots))

    def test_of_one_tick_by_hour_then_by_place(self):
        lots = [(0, 9, 1), (0, 5, 1), (0, 9, 1), (0, 5, 1)]
        self.assertEqual(ran(9, lots), [(0, 1, 1), (0, 3, 1), (0, 0, 1), (0, 2, 1)])
        self.assertEqual(ran(3, lots), [(0, 1, 1), (0, 3, 1), (0, 0, 1), (1, 2, 1)])

    def test_what_comes_in_a_tick_is_carried_in_it(self):
        self.assertEqual(ran(2, [(7, 8, 2)]), [(7, 0, 2)])
        self.assertEqual(ran(2, [(7, 9, 3), (8, 9, 1)]), [(7, 0, 2), (8, 0, 1), (8, 1, 1)])

    def test_late_lots_are_carried_too_and_go_first(self):
        self.assertEqual(ran(1, [(0, 1, 3)]), [(0, 0, 1), (1, 0, 1), (2, 0, 1)])
        lots = [(0, 1, 3), (1, 2, 1), (1, 9, 1)]
        self.assertEqual(ran(1, lots), [(0, 0, 1), (1, 0, 1), (2, 0, 1), (3, 1, 1), (4, 2, 1)])

    def test_gaps(self):
        self.assertEqual(ran(5, [(200, 201, 1), (3, 9, 6)]), [(3, 1, 5), (4, 1, 1), (200, 0, 1)])

    def test_no_lots(self):
        self.assertEqual(ran(3, []), [])
        self.assertIsInstance(ran(3, []), list)

    def test_lots_stay(self):
        lots = [(0, 3, 2), (1, 2, 1)]
        told = ran(width=1, lots=lots)
        self.assertEqual(lots, [(0, 3, 2), (1, 2, 1)])
        told.clear()
        self.assertEqual(ran(1, lots), [(0, 0, 1), (1, 1, 1), (2, 0, 1)])


class TightTest(unittest.TestCase):
    def test_every_stretch_of_small_ones(self):
        chance = random.Random(4)
        seen = {True: 0, False: 0}
        for _ in range(1200):
            lots = random_lots(chance, 6, 9, 5)
            for width in [1, 2, 3, 4]:
                found = tight(width, lots)
                over = over_somewhere(width, lots)
                seen[over] += 1
                self.assertEqual(found is not None, over, (width, lots))
                if over:
                    self.assertLess(found[0], found[1])
                    self.assertTrue(over_at(width, lots, *found), (width, lots, found))
        self.assertGreater(min(seen.values()), 500)

    def test_none_just_where_some_way_of_carrying_keeps_all_hours(self):
        chance = random.Random(5)
        for _ in range(400):
            lots = random_lots(chance, 4, 5, 3)
            for width in [1, 2]:
                self.assertEqual(tight(width, lots) is None, walks.can_keep(width, lots), (width, lots))

    def test_where_it_is_none_ran_keeps_all_hours(self):
        chance = random.Random(6)
        for _ in range(800):
            lots = random_lots(chance, 7, 12, 5)
            for width in [1, 2, 3, 5]:
                kept = all(tick < lots[place][1] for tick, place, many in ran(width, lots))
                self.assertEqual(tight(width, lots) is None, kept, (width, lots))

    def test_at_the_edge(self):
        self.assertIsNone(tight(3, [(2, 4, 6)]))
        self.assertEqual(tight(3, [(2, 4, 7)]), (2, 4))
        self.assertIsNone(tight(3, [(2, 4, 6), (4, 5, 3)]))
        self.assertEqual(tight(3, [(2, 5, 5), (4, 5, 4)]), (4, 5))
        self.assertEqual(tight(3, [(2, 5, 8), (4, 5, 2)]), (2, 5))

    def test_no_lots(self):
        self.assertIsNone(tight(1, []))

    def test_great_ticks_and_numbers(self):
        self.assertIsNone(tight(10, [(0, HUGE, 10 * HUGE)]))
        self.assertEqual(tight(10, [(0, HUGE, 10 * HUGE + 1)]), (0, HUGE))
        self.assertIsNone(tight(1, [(0, HUGE, HUGE - 1), (HUGE - 1, HUGE, 1)]))
        self.assertEqual(tight(1, [(0, HUGE, HUGE), (HUGE - 1, HUGE, 1)]), (0, HUGE))
        self.assertEqual(tight(1, [(0, HUGE, 1), (HUGE - 1, HUGE, 2)]), (HUGE - 1, HUGE))
        self.assertIsNone(tight(10 ** 9, [(HUGE, 2 * HUGE, HUGE)] * 60))

    def test_great_lots_like_small_ones(self):
        chance = random.Random(7)
        for _ in range(300):
            small = random_lots(chance, 6, 9, 5)
            for width in [1, 2, 3]:
                great = [(come * HUGE, hour * HUGE, many * HUGE) for come, hour, many in small]
                self.assertEqual(tight(width, great) is None, tight(width, small) is None)

    def test_lots_stay(self):
        lots = [(4, 5, 4), (2, 5, 5)]
        self.assertEqual(tight(lots=lots, width=3), (4, 5))
        self.assertEqual(lots, [(4, 5, 4), (2, 5, 5)])
        self.assertIsInstance(tight(3, lots), tuple)


class WrongLotsTest(unittest.TestCase):
    def refused_place(self, asked, lots):
        with self.assertRaises(NoLot) as caught:
            asked(3, lots)
        return caught.exception.place

    def test_each_kind_at_each_place(self):
        for asked in [ran, tight]:
            for wrong in WRONG:
                for place in range(len(GOOD) + 1):
                    lots = GOOD[:place] + [wrong] + GOOD[place:]
                    self.assertEqual(self.refused_place(asked, lots), place)

    def test_the_first_place_is_told(self):
        for asked in [ran, tight]:
            for one, other in itertools.product(WRONG, WRONG):
                self.assertEqual(self.refused_place(asked, [GOOD[0], one, GOOD[1], other]), 1)

    def test_edges_that_are_good(self):
        for asked in [ran, tight]:
            asked(1, [(0, 1, 1)])
            asked(1, [(5, 6, 1)])

    def test_wrong_lots_are_told_ahead_of_a_stretch(self):
        self.assertEqual(self.refused_place(tight, [(0, 1, 99), (0, 1, 0)]), 1)


if __name__ == "__main__":
    unittest.main()
