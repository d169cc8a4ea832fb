"""[10.1]: the desk."""

import random
import unittest

from hourlanes.desk import answered
from hourlanes.house import House
from hourlanes.jars import Jar
from hourlanes.limits import greatest_size, least_width, longest_shut, quickest
from hourlanes.rooms import room
from tests.drawn import tried

TOP = 10 ** 9
START = ["lane a 3", "lane b 2", "in x 6 1 3 a 3 b 4"]


class DeskTest(unittest.TestCase):
    def assert_answers(self, *pairs):
        """What each row is answered, behind the lanes and the stream of the start."""
        rows = [row for row, wanted in pairs]
        told = answered("\n".join([*START, *rows]))
        self.assertEqual(list(zip(rows, told[3:])), list(pairs))
        self.assertEqual(told[:3], ["ok"] * 3)
        self.assertEqual(len(told), len(rows) + 3)

    def assert_no_rows(self, *rows):
        self.assert_answers(*[(row, "no row") for row in rows])

    def test_no_rows_at_all(self):
        for text in ["", "\n", "  \n \n\n", " "]:
            self.assertEqual(answered(text), [])
        self.assertEqual(answered(text="plan"), ["nothing"])

    def test_a_house_is_kept_through_all_rows(self):
        self.assertEqual(answered("lane a 2\n in x 4 1 2 a 3 \n\ntick x 2\ntick\n tick\ntick\nplan\n"),
                         ["ok", "ok", "nothing", "nothing", "nothing", "x 2", "lane a 2 / stream x 4 1 2 a 3"])
        self.assertEqual(answered("plan"), ["nothing"])

    def test_blanks_and_the_last_line_end(self):
        wanted = ["ok", "ok", "nothing"]
        self.assertEqual(answered("   lane   a  2  \n\n  \nin x 4 1 2   a 3\ntick    x    1"), wanted)
        self.assertEqual(answered("lane a 2\nin x 4 1 2 a 3\ntick x 1\n"), wanted)

    def test_lane(self):
        self.assert_answers(("lane c 1000000000", "ok"), ("lane c 1", "taken c"), ("lane d 1000000001", "no width"),
                            ("lane d 9999999999", "no width"), ("lane d 0", "no width"), ("lane D 0", "no name D"),
                            ("lane a 0", "taken a"), ("lane abcdefghi 1", "no name abcdefghi"), ("lane d 5", "ok"))

    def test_in(self):
        self.assert_answers(
            ("in y 2 1 1 b 9", "ok"), ("in y 2 1 1 b 9", "taken y"), ("in Y 2 1 1 b 9", "no name Y"),
            ("in z 1 2 1 b 9", "no jar"), ("in Z 1 2 1 q 0", "no jar"), ("in x 0 0 0 q 0", "no jar"),
            ("in z 1000000001 1 1 a 1", "no jar"), ("in z 1 1 1 q 1", "no way 0"), ("in z 1 1 1 a 1 b 0", "no way 1"),
            ("in z 1 1 1 a 1 a 1", "no way 1"), ("in z 1 1 1 a 1 b 9999999999", "no way 1"),
            ("in z 9 9 9 b 1 a 1", "too much b"), ("in z 9 3 9 a 9", "too much a"),
            ("in z 1 1 1 a 30 b 30", "too much b"),
            ("in z 1 1 1 a 30", "ok"))

    def test_turn(self):
        self.assert_answers(
            ("turn x 6 1 3 b 9", "ok"), ("plan", "lane a 3 / lane b 2 / stream x 6 1 3 b 9"),
            ("turn y 1 1 1 a 1", "unknown y"), ("turn y 1 2 1 a 1", "no jar"), ("turn x 1 2 1 q 1", "no jar"),
            ("turn x 1 1 1 q 1", "no way 0"), ("turn x 9 3 9 b 1", "too much b"), ("turn Y 1 1 1 a 1", "unknown Y"))

    def test_go(self):
        self.assert_answers(("tick x 3", "nothing"), ("tick x 1", "nothing"), ("go x", "4"), ("go x", "unknown x"),
                            ("go a", "unknown a"), ("in x 1 1 1 a 9", "ok"), ("go x", "4"))

    def test_widen_and_shut(self):
        self.assert_answers(
            ("widen a 2", "ok"), ("widen a 1", "too much a"), ("widen a 0", "no width"), ("widen x 0", "unknown x"),
            ("widen b 9999999999", "no width"), ("shut a 0", "ok"), ("shut b 9", "too much b"),
            ("shut x 1", "unknown x"),
            ("shut b 1000000001", "no tick"), ("shut x 9999999999", "unknown x"), ("go x", "0"),
            ("shut b 1000000000", "ok"))

    def test_tick(self):
        self.assert_answers(
            ("in y 9 1 3 a 7", "ok"), ("tick y 1 x 2", "nothing"), ("tick x 0", "nothing"),
            ("tick x 4", "too many x 3"),
            ("tick z 4 x 9", "unknown z"), ("tick y 9999999999 x 9", "too many x 3"), ("tick", "nothing"),
            ("tick", "nothing"), ("tick x 1", "nothing"), ("tick", "nothing"), ("tick", "nothing"),
            ("tick", "x 2, y 1"), ("tick", "nothing"), ("tick", "nothing"), ("tick", "nothing"), ("tick y 0", "x 1"))

    def test_a_name_twice_in_a_tick(self):
        self.assert_answers(("tick x 1 x 1", "no row"), ("tick x 1 y 1 x 1", "no row"), ("tick z 1 z 1", "no row"),
                            ("tick x 0 x 0", "no row"), ("tick x 9 x 9", "no row"), ("stands a", "0"), ("go x", "0"))

    def test_many_names_in_a_tick(self):
        self.assert_answers(("lane c 9", "ok"), *[(f"in {name} 3 1 3 c 1", "ok") for name in ["p", "q", "r"]],
                            ("tick r 1 p 2 x 3 q 3", "nothing"), ("tick", "p 2, q 3, r 1"),
                            ("tick q 1 r 1 p 1", "nothing"), ("tick q 1 r 1 p 1 q 1", "no row"),
                            ("tick", "p 1, q 1, r 1"))

    def test_quick(self):
        self.assert_answers(
            ("quick 10 1 5 b a", "b 12, a 6"), ("quick 1 1 1 a", "a 1"), ("quick 3 3 3 a", "never"),
            ("quick 1 1 1 a q", "no way 1"), ("quick 1 1 1 a a", "no way 1"), ("quick 1 2 1 q", "no jar"),
            ("quick 0 0 0 a", "no jar"), ("lane c 9", "ok"), ("lane d 9", "ok"), ("lane e 9", "ok"),
            ("quick 1 1 1 c d e a b", "no way 4"), ("quick 1 1 1 c d e a", "c 1, d 1, e 1, a 1"))

    def test_size(self):
        self.assert_answers(
            ("size 1 3 a 3", "5"), ("size 1 1 a 3", str(TOP)), ("size 3 3 a 3", "never"), ("size 2 1 q 3", "no jar"),
            ("size 0 1 a 3", "no jar"), ("size 1 1000000001 a 3", "no jar"), ("size 1 1 q 3", "no way 0"),
            ("size 1 1 a 3 b 0", "no way 1"))

    def test_width_rest_room_stands(self):
        self.assert_answers(
            ("width a", "2"), ("width q", "unknown q"), ("rest a", "2"), ("rest q", "unknown q"), ("room a", "0"),
            ("room x", "unknown x"), ("stands a", "0"), ("stands x", "unknown x"), ("widen a 2", "ok"), ("room a", "2"),
            ("shut a 1", "ok"), ("room a", "4"), ("tick x 3", "nothing"), ("stands a", "3"), ("stands b", "0"),
            ("tick x 1", "nothing"), ("stands a", "2"), ("go x", "4"), ("rest a", "0"), ("lane c 9", "ok"),
            ("rest c", str(TOP)),
            ("width c", "1"))

    def test_plan(self):
        self.assert_answers(
            ("plan", "lane a 3 / lane b 2 / stream x 6 1 3 a 3 b 4"), ("tick x 2", "nothing"), ("shut b 1", "ok"),
            ("in a 1 1 1 a 9", "ok"), ("go x", "2"), ("plan", "lane a 3 / lane b 2 / stream a 1 1 1 a 9"),
            ("go a", "0"), ("plan", "lane a 3 / lane b 2"))

    def test_names_that_are_the_desks_own_words(self):
        rows = ["lane lane 4", "lane tick 4", "in in 2 1 1 lane 9 tick 9", "in tick 2 1 1 tick 9",
                "turn turn 2 1 1 tick 9", "tick tick 1 in 1", "stands tick", "go go", "go in", "plan"]
        self.assertEqual(answered("\n".join(rows)), [
            "ok", "ok", "ok", "ok", "unknown turn", "nothing", "0", "unknown go", "1",
            "lane lane 4 / lane tick 4 / stream tick 2 1 1 tick 9"])

    def test_numbers(self):
        self.assert_no_rows("lane c 00", "lane c 01", "lane c 12345678901", "lane c 10000000000", "lane c -1",
                            "lane c +1",
                            "lane c 1.0", "lane c x", "in y 01 1 1 a 9", "in y 1 1 1 a 09", "in y 1 1 1 a b",
                            "tick x 00", "tick x 01", "tick x -1", "tick x x", "shut a 00", "size 01 1 a 9",
                            "quick 1 1 01 a", "size 1 1 a 00000000001")
        self.assert_answers(("shut a 0", "ok"), ("tick x 0", "nothing"), ("lane c 1234567890", "no width"))

    def test_a_word_too_few_or_too_many(self):
        self.assert_no_rows(
            "lane", "lane c", "lane c 1 1", "lane 1", "in", "in y 1 1 1", "in y 1 1 1 a", "in y 1 1 a 9",
            "in y 1 1 1 a 9 b",
            "in 1 1 1 a 9", "turn x 6 1 3", "turn x 6 1 3 a", "turn x", "turn x 6 1 3 a 3 b", "widen a", "widen a 1 1",
            "widen", "shut a", "shut a 1 1", "shut", "go", "go x x", "tick x", "tick x 1 y", "quick", "quick 1 1 1",
            "quick 1 1 a", "size 1 1", "size 1 a 3", "size 1 1 a", "size 1 1 a 3 b", "width", "width a b", "rest",
            "rest a 1",
            "room", "room a b", "stands", "stands a a", "plan x", "plan plan")

    def test_other_words(self):
        self.assert_no_rows("hop", "Lane c 1", "LANE c 1", "lanes", "out x", "build c 1", "stream y 1 1 1 a 9", "?",
                            "lane: c 1", "tick, x 1", "\\", "~", "0", "x 1")

    def test_what_is_refused_changes_nothing(self):
        self.assert_answers(("in y 9 9 9 a 1", "too much a"), ("turn x 9 9 9 a 1", "too much a"),
                            ("lane a 9", "taken a"), ("widen a 1", "too much a"), ("shut a 9", "too much a"),
                            ("tick x 9", "too many x 3"),
                            ("plan", "lane a 3 / lane b 2 / stream x 6 1 3 a 3 b 4"), ("stands a", "0"), ("go x", "0"))

    def test_drawn_rows_against_a_house(self):
        chance = random.Random(101)
        kinds = {}
        for _ in range(60):
            house, rows, wanted = House(), ["lane a 4", "lane b 3"], ["ok", "ok"]
            house.build("a", 4)
            house.build("b", 3)
            for _ in range(60):
                row, answer = drawn_row(chance, house)
                rows.append(row)
                wanted.append(answer)
                kinds[(row.split()[0], answer.split()[0])] = 1
            self.assertEqual(answered("\n".join(rows)), wanted)
        self.assertGreater(len(kinds), 50, sorted(kinds))


def refused(refusal):
    told = {"NoJar": "no jar", "NoTick": "no tick", "NoLane": "no width", "NoName": "no name", "Taken": "taken",
            "Unknown": "unknown", "NoWay": "no way", "TooMany": "too many", "TooMuch": "too much"}
    fields = [getattr(refusal, name) for name in ["name", "place", "bound", "lane"] if hasattr(refusal, name)]
    return " ".join([told[type(refusal).__name__], *map(str, fields)])


def drawn_row(chance, house):
    """A row and its answer, by the house's own methods."""
    lane, name = chance.choice("abcQ"), chance.choice(["x", "y", "z", "a", "X"])
    size, rate, mouth = [4, 1, chance.randrange(1, 4)]
    if chance.random() < 0.2:
        size, rate, mouth = [chance.randrange(5) for _ in range(3)]
    way = [(each, chance.choice([0, 4, 9, 20, 30])) for each in chance.sample("abcd", chance.randrange(1, 3))]
    legs = " ".join(f"{leg} {wait}" for leg, wait in way)
    number = chance.choice([0, 1, 2, 3, 5, 9999999999])
    word = chance.choice("lane in in in turn go widen shut tick tick tick quick size width rest room stands".split())
    asks = {"width": least_width, "rest": longest_shut}
    if word in ("in", "turn"):
        deed = "let_in" if word == "in" else "turn"
        row = f"{word} {name} {size} {rate} {mouth} {legs}"
        if not 1 <= rate <= mouth <= size:
            return row, "no jar"
        refusal = tried(house, deed, name, Jar(size, rate, mouth), way)
        return row, "ok" if refusal is None else refused(refusal)
    if word in ("lane", "widen", "shut"):
        refusal = tried(house, "build" if word == "lane" else word, lane, number)
        return f"{word} {lane} {number}", "ok" if refusal is None else refused(refusal)
    try:
        if word == "go":
            return f"go {name}", str(house.let_go(name))
        if word == "tick":
            row = f"tick {name} {number}" if chance.random() < 0.7 else "tick"
            outs = house.tick({name: number} if row != "tick" else {})
            return row, ", ".join(f"{out} {many}" for out, came, many in outs) or "nothing"
        return asked_row(house, word, lane, (size, rate, mouth), way, asks)
    except ValueError as refusal:
        row = {"go": f"go {name}", "quick": f"quick {size} {rate} {mouth} {' '.join(leg for leg, wait in way)}",
               "size": f"size {rate} {mouth} {legs}"}.get(word, f"{word} {lane}")
        return (f"tick {name} {number}" if word == "tick" else row), refused(refusal)


def asked_row(house, word, lane, numbers, way, asks):
    size, rate, mouth = numbers
    if word == "quick":
        told = quickest(house, Jar(size, rate, mouth), [leg for leg, wait in way])
        row = f"quick {size} {rate} {mouth} {' '.join(leg for leg, wait in way)}"
        return row, "never" if told is None else ", ".join(f"{leg} {wait}" for leg, wait in told)
    if word == "size":
        told = greatest_size(house, rate, mouth, way)
        legs = " ".join(f"{leg} {wait}" for leg, wait in way)
        return f"size {rate} {mouth} {legs}", "never" if told is None else str(told)
    if word == "room":
        return f"room {lane}", str(room(house.scene(lane))[0])
    if word == "stands":
        return f"stands {lane}", str(sum(row[3] for row in house.standing(lane)))
    return f"{word} {lane}", str(asks[word](house, lane))


if __name__ == "__main__":
    unittest.main()
