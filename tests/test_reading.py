"""[3.3]: plans as texts."""

import itertools
import random
import unittest

from hourlanes.errors import LaneError, NoLane, NoName, NoText, NoWay, Taken
from hourlanes.jars import Jar
from hourlanes.plans import Plan
from hourlanes.reading import plan_of, written

TOP = 10 ** 9
PLAN = Plan([("a", 3), ("b", 40)], [("s", Jar(9, 2, 5), [("b", 2), ("a", 30)]), ("a", Jar(5, 1, 1), [("b", 7)])])
TEXT = "lane a 3\nlane b 40\nstream s 9 2 5 b 2 a 30\nstream a 5 1 1 b 7\n"
GOOD_ROWS = ["lane a 3", "stream s 9 2 5 a 2", "", "lane b 1"]
NO_NUMBERS = ["0", "00", "01", "007", "12345678901", "10000000000", "+1", "-1", "1.", "1.0", "1e3", "1_0", "x",
              "1x", "x1", "1,0", "0x1", "=", "~"]


def random_plan(chance):
    names = chance.sample(["a", "b", "ab", "lane", "stream", "abcdefgh", "z"], chance.randrange(7))
    lanes = [(name, chance.choice([1, 9, 10, TOP])) for name in names]
    streams = []
    if lanes:
        for name in chance.sample(["a", "s", "lane", "stream", "zzzzzzzz", "t"], chance.randrange(7)):
            numbers = sorted([chance.choice([1, 2, 10, 99, TOP]) for _ in range(3)])
            legs = chance.sample(names, chance.randrange(1, min(4, len(names)) + 1))
            way = [(lane, chance.choice([1, 5, 10 ** 8, TOP])) for lane in legs]
            streams.append((name, Jar(numbers[2], numbers[0], numbers[1]), way))
    return Plan(lanes, streams)


class WrittenTest(unittest.TestCase):
    def test_a_plan(self):
        self.assertEqual(written(PLAN), TEXT)
        self.assertEqual(written(plan=PLAN), TEXT)

    def test_of_nothing(self):
        self.assertEqual(written(Plan([], [])), "")
        self.assertEqual(written(Plan([("a", TOP)], [])), "lane a 1000000000\n")

    def test_read_again_is_that_plan(self):
        chance = random.Random(11)
        for _ in range(500):
            plan = random_plan(chance)
            self.assertEqual(plan_of(written(plan)), plan)
            self.assertEqual(written(plan_of(written(plan))), written(plan))

    def test_the_plan_stays(self):
        written(PLAN)
        self.assertEqual(PLAN.lanes, [("a", 3), ("b", 40)])


class ReadTest(unittest.TestCase):
    def refusal(self, text):
        with self.assertRaises(LaneError) as caught:
            plan_of(text)
        return (type(caught.exception), vars(caught.exception))

    def assert_no_text(self, text, row):
        self.assertEqual(self.refusal(text), (NoText, {"row": row}), text)

    def test_a_text(self):
        self.assertEqual(plan_of(TEXT), PLAN)
        self.assertEqual(plan_of(text=TEXT), PLAN)

    def test_rows_in_any_order_among_one_another(self):
        for places in itertools.combinations(range(4), 2):
            lanes, streams = iter(TEXT.splitlines()[:2]), iter(TEXT.splitlines()[2:])
            rows = [next(lanes) if at in places else next(streams) for at in range(4)]
            self.assertEqual(plan_of("\n".join(rows)), PLAN)

    def test_the_order_of_lanes_and_of_streams_is_kept(self):
        rows = TEXT.splitlines()
        self.assertEqual(plan_of("\n".join(reversed(rows))).lanes, [("b", 40), ("a", 3)])
        self.assertEqual([name for name, jar, way in plan_of("\n".join(reversed(rows))).streams], ["a", "s"])

    def test_more_blanks_and_blank_rows(self):
        for text in [TEXT.replace(" ", "  "), TEXT.replace(" ", "     "), TEXT.replace("\n", "\n\n"),
                     TEXT.replace("\n", "  \n   "), "\n\n" + TEXT, "  \n " + TEXT + "   ", TEXT + "\n \n"]:
            self.assertEqual(plan_of(text), PLAN)

    def test_the_last_line_end_may_lack(self):
        self.assertEqual(plan_of(TEXT[:-1]), PLAN)
        self.assertEqual(plan_of(TEXT + "   "), PLAN)

    def test_no_rows(self):
        for text in ["", "\n", " ", "   \n\n  \n"]:
            self.assertEqual(plan_of(text), Plan([], []))

    def test_numbers_that_are_none_in_every_place(self):
        for word in NO_NUMBERS:
            self.assert_no_text(f"lane a {word}", 0)
            for place in [2, 3, 4, 6, 8]:
                words = "stream s 9 2 5 a 2 b 3".split()
                words[place] = word
                self.assert_no_text("lane a 1\nlane b 1\n" + " ".join(words), 2)

    def test_numbers_of_ten_figures(self):
        self.assertEqual(plan_of("lane a 1000000000").lanes, [("a", TOP)])
        self.assertEqual(self.refusal("lane a 1000000001"), (NoLane, {}))
        self.assertEqual(self.refusal("lane a 9999999999"), (NoLane, {}))
        self.assertEqual(self.refusal("lane a 1\nstream s 1 1 1 a 9999999999"), (NoWay, {"place": 0}))
        plan_of("lane a 1\nstream s 1000000000 1 1 a 1000000000")

    def test_rows_cut_short_or_too_long(self):
        for row in ["lane", "lane a", "lane 1", "lane a 1 1", "lane a 1 b", "lane a 1 b 2", "lanea 1", "LANE a 1",
                    "Lane a 1", "lanes a 1", "a 1", "a lane 1", "1 a lane", "x", "stream", "streams s 1 1 1 a 1",
                    "Stream s 1 1 1 a 1", "stream s", "stream s 9", "stream s 9 2", "stream s 9 2 5",
                    "stream s 9 2 5 a", "stream s 9 2 5 a 1 b", "stream s 9 2 5 a 1 2", "stream s 9 2 5 1 a",
                    "stream 9 2 5 a 1", "stream s 9 2 a 1", "#", "lane a 1 #", "in s 9 2 5 a 1", "lane, a 1"]:
            self.assert_no_text(row, 0)
            self.assert_no_text("\n \nlane a 1\n" + row + "\nlane b 1\n", 3)

    def test_all_legs_count(self):
        lanes = "".join([f"lane {name} 1\n" for name in "abcde"])
        for legs in range(1, 5):
            way = [(name, at + 1) for at, name in enumerate("abcde"[:legs])]
            told = " ".join([f"{lane} {wait}" for lane, wait in way])
            self.assertEqual(plan_of(f"{lanes}stream s 9 2 5 {told}").streams[0][2], tuple(way))
        self.assertEqual(self.refusal(lanes + "stream s 9 2 5 a 1 b 2 c 3 d 4 e 5"), (NoWay, {"place": 4}))

    def test_a_jar_that_is_none(self):
        for numbers in ["1 2 1", "1 1 2", "5 3 2", "1000000001 1 1", "9999999999 9999999999 9999999999", "2 5 9"]:
            self.assert_no_text(f"lane a 1\nstream s {numbers} a 1\n", 1)

    def test_the_first_row_that_is_wrong(self):
        bad_jar, bad_row = "stream s 1 2 1 a 1", "lane a"
        for rows in [[bad_jar, bad_row], [bad_row, bad_jar], [bad_jar, bad_jar], [bad_row, bad_row]]:
            self.assert_no_text("\n".join(rows), 0)
            self.assert_no_text("\n".join(GOOD_ROWS + rows), 4)
            self.assert_no_text("\n".join(rows[:1] + GOOD_ROWS + rows[1:]), 0)

    def test_rows_are_counted_from_nought_blank_ones_too(self):
        for place in range(len(GOOD_ROWS) + 1):
            rows = GOOD_ROWS[:place] + ["lane a b"] + GOOD_ROWS[place:]
            self.assert_no_text("\n".join(rows), place)
            self.assert_no_text("\n".join(rows) + "\n", place)

    def test_names_may_be_any_words_then_plan_refuses(self):
        for name in ["A", "12", "a-b", "abcdefghi", "~", "0", "lane1"]:
            self.assertEqual(self.refusal(f"lane {name} 1"), (NoName, {"name": name}))
            self.assertEqual(self.refusal(f"lane a 1\nstream {name} 1 1 1 a 1"), (NoName, {"name": name}))
            self.assertEqual(self.refusal(f"lane a 1\nstream s 1 1 1 {name} 1"), (NoWay, {"place": 0}))
        self.assertEqual(plan_of("lane lane 1\nstream stream 1 1 1 lane 1").lanes, [("lane", 1)])

    def test_texts_are_refused_ahead_of_plans(self):
        for ahead in ["lane A 1", "lane a 1\nlane a 1", "lane a 9999999999", "stream s 1 1 1 x 1"]:
            row = ahead.count("\n") + 1
            self.assert_no_text(ahead + "\nx", row)
            self.assert_no_text(ahead + "\nstream s 1 2 1 a 1", row)

    def test_what_plan_refuses(self):
        self.assertEqual(self.refusal("lane a 1\nlane a 1"), (Taken, {"name": "a"}))
        row = "stream s 1 1 1 a 1\n"
        self.assertEqual(self.refusal("lane a 1\n" + row + row), (Taken, {"name": "s"}))
        self.assertEqual(self.refusal("lane a 1\nstream s 1 1 1 a 1 a 1"), (NoWay, {"place": 1}))
        self.assertEqual(self.refusal("stream S 1 1 1 a 1\nlane a 1\nlane b 9999999999"), (NoLane, {}))

    def test_a_stream_ahead_of_its_lane(self):
        self.assertEqual(plan_of("stream s 1 1 1 a 1\nlane a 1"), plan_of("lane a 1\nstream s 1 1 1 a 1"))


if __name__ == "__main__":
    unittest.main()
