"""[9.4]: doors, where streams wait till the house lets them in."""

import random
import unittest

from hourlanes.doors import Door
from hourlanes.errors import NoName, NoWay, Taken, TooMuch, Unknown
from hourlanes.house import House
from hourlanes.jars import Jar
from tests.counts import looks
from tests.drawn import STREAMS, Run, tried
from tests.some_scenes import some_jar

WIDE = Jar(6, 3, 6)
SMALL = Jar(1, 1, 1)


def door_of(width=3):
    house = House()
    house.build("a", width)
    house.build("b", 9)
    return Door(house), house


class DoorTest(unittest.TestCase):
    def assert_refused(self, door, house, error, field, word, *given):
        ahead = (looks(house), door.waiting(), len(door))
        refusal = tried(door, word, *given)
        self.assertIs(type(refusal), error)
        self.assertEqual(refusal.place if error is NoWay else refusal.name, field)
        self.assertEqual((looks(house), door.waiting(), len(door)), ahead)

    def test_let_in_at_once(self):
        door, house = door_of()
        self.assertIs(door.wish("x", WIDE, [("a", 2)]), True)
        self.assertEqual(house.stream_rows(), [("x", (6, 3, 6), 6, (("a", 2),))])
        self.assertEqual((door.waiting(), len(door), door.look()), ([], 0, []))
        self.assertEqual(house.book()[-1], ("in", "x", (6, 3, 6), (("a", 2),)))

    def test_one_waits_and_one_is_let_in_past_it(self):
        door, house = door_of()
        door.wish("x", Jar(3, 1, 3), [("a", 2)])
        self.assertIs(door.wish(name="y", jar=WIDE, way=[("a", 2)]), False)
        ahead = house.book()
        self.assertEqual((door.waiting(), len(door)), (["y"], 1))
        self.assertIs(door.wish("z", SMALL, [("a", 9)]), True)
        self.assertIs(door.wish("w", WIDE, [("a", 9)]), False)
        self.assertEqual((door.waiting(), len(door)), (["y", "w"], 2))
        self.assertEqual([row[0] for row in house.stream_rows()], ["x", "z"])
        self.assertEqual(house.book(), [*ahead, ("in", "z", (1, 1, 1), (("a", 9),))])

    def test_look_lets_in_whom_the_house_lets_in_as_it_then_is(self):
        door, house = door_of()
        door.wish("x", WIDE, [("a", 2)])
        for name, jar in [("u", WIDE), ("v", SMALL), ("w", Jar(2, 2, 2)), ("y", Jar(3, 3, 3))]:
            self.assertIs(door.wish(name, jar, [("a", 2)]), False)
        self.assertEqual(door.look(), [])
        self.assertEqual(door.waiting(), ["u", "v", "w", "y"])
        house.let_go("x")
        house.let_in("z", SMALL, [("a", 9)])
        # There is no room for u by now, there is for v and for no more than one more piece each tick.
        self.assertEqual(door.look(), ["v"])
        self.assertEqual(door.waiting(), ["u", "w", "y"])
        house.widen("a", 5)
        self.assertEqual(door.look(), ["u"])
        house.widen("a", 10)
        self.assertEqual(door.look(), ["w", "y"])
        self.assertEqual((door.waiting(), len(door), door.look()), ([], 0, []))
        self.assertEqual([row[0] for row in house.stream_rows()], ["z", "v", "u", "w", "y"])

    def test_a_name_that_waits_is_let_in_by_hand_meanwhile(self):
        door, house = door_of()
        door.wish("x", WIDE, [("a", 2)])
        door.wish("y", WIDE, [("a", 2)])
        door.wish("z", SMALL, [("a", 2)])
        house.let_in("y", SMALL, [("b", 1)])
        house.let_go("x")
        self.assertEqual(door.look(), ["z"])
        self.assertEqual(door.waiting(), ["y"])
        house.let_go("z")
        self.assertEqual(door.look(), [])
        house.let_go("y")
        self.assertEqual(door.look(), ["y"])
        self.assertEqual(house.stream_rows(), [("y", (6, 3, 6), 6, (("a", 2),))])

    def test_refusals_in_their_order(self):
        door, house = door_of()
        door.wish("x", WIDE, [("a", 2)])
        door.wish("y", WIDE, [("a", 2)])
        self.assert_refused(door, house, NoName, "Y", "wish", "Y", WIDE, [])
        self.assert_refused(door, house, NoName, "", "wish", "", WIDE, [("a", 2)])
        self.assert_refused(door, house, Taken, "x", "wish", "x", WIDE, [])
        self.assert_refused(door, house, Taken, "y", "wish", "y", WIDE, [])
        self.assert_refused(door, house, Taken, "y", "wish", "y", SMALL, [("b", 2)])
        self.assert_refused(door, house, NoWay, 0, "wish", "z", WIDE, [])
        self.assert_refused(door, house, NoWay, 1, "wish", "z", WIDE, [("a", 1), ("c", 1)])
        self.assert_refused(door, house, Unknown, "x", "drop", "x")
        self.assert_refused(door, house, Unknown, "z", "drop", "z")
        self.assert_refused(door, house, Unknown, "", "drop", "")

    def test_drop(self):
        door, house = door_of()
        door.wish("x", WIDE, [("a", 2)])
        for name in ["u", "v", "w"]:
            door.wish(name, WIDE, [("a", 2)])
        self.assertIsNone(door.drop("v"))
        self.assertEqual((door.waiting(), len(door)), (["u", "w"], 2))
        self.assert_refused(door, house, Unknown, "v", "drop", "v")
        door.drop(name="u")
        door.wish("u", WIDE, [("a", 2)])
        self.assertEqual(door.waiting(), ["w", "u"])
        house.let_go("x")
        self.assertEqual(door.look(), ["w"])

    def test_one_that_was_let_in_waits_no_more(self):
        door, house = door_of()
        door.wish("x", WIDE, [("a", 2)])
        door.wish("y", WIDE, [("a", 2)])
        house.let_go("x")
        door.look()
        self.assert_refused(door, house, Unknown, "y", "drop", "y")
        self.assert_refused(door, house, Taken, "y", "wish", "y", WIDE, [("a", 2)])
        self.assertIs(door.wish("x", WIDE, [("a", 2)]), False)

    def test_nothing_hangs_on_what_was_handed_in_or_told(self):
        door, house = door_of()
        door.wish("x", WIDE, [("a", 2)])
        way = [["a", 2]]
        door.wish("y", WIDE, way)
        way[0][1] = 99
        way.append(("c", 1))
        door.waiting().clear()
        door.look().append("y")
        self.assertEqual(door.waiting(), ["y"])
        house.let_go("x")
        told = door.look()
        self.assertEqual(told, ["y"])
        self.assertEqual(house.stream_rows()[0][3], (("a", 2),))

    def test_two_doors_of_one_house(self):
        door, house = door_of()
        other = Door(house=house)
        door.wish("x", WIDE, [("a", 2)])
        door.wish("y", WIDE, [("a", 2)])
        self.assertIs(other.wish("y", WIDE, [("a", 2)]), False)
        self.assertIs(other.wish("z", SMALL, [("b", 2)]), True)
        house.let_go("x")
        self.assertEqual((other.look(), door.look()), (["y"], []))
        self.assertEqual((other.waiting(), door.waiting()), ([], ["y"]))

    def test_a_door_is_there_while_it_is_empty(self):
        door, house = door_of()
        self.assertEqual(len(door), 0)
        house.tick()
        self.assertEqual(house.now, 1)

    def test_drawn_doors(self):
        seen = {"in": 0, "waits": 0, "looked": 0}
        for seed in range(40):
            run = Run(random.Random(2200 + seed), size=5, waits=6)
            door, waits = Door(run.house), []
            for _ in range(80):
                if run.chance.random() < 0.4:
                    name = run.chance.choice(STREAMS)
                    if name not in run.names() and name not in [row[0] for row in waits]:
                        self.wished(run, door, waits, name, seen)
                elif run.chance.random() < 0.3:
                    self.looked_at(run, door, waits, seen)
                else:
                    run.go_on()
                self.assertEqual(door.waiting(), [row[0] for row in waits])
                self.assertEqual(len(door), len(waits))
        self.assertGreater(min(seen.values()), 40, seen)

    def wished(self, run, door, waits, name, seen):
        numbers, way = some_jar(run.chance, 5), run.some_way()
        ahead = looks(run.house)
        if door.wish(name, Jar(*numbers), way):
            run.count.let_in(name, numbers, way)
            seen["in"] += 1
        else:
            self.assertEqual(looks(run.house), ahead)
            self.assertIs(type(tried(run.house, "let_in", name, Jar(*numbers), way)), TooMuch)
            waits.append((name, numbers, way))
            seen["waits"] += 1
        self.assertEqual(run.house.stream_rows(), run.count.stream_rows())

    def looked_at(self, run, door, waits, seen):
        told = door.look()
        for name, numbers, way in [row for row in waits if row[0] in told]:
            run.count.let_in(name, numbers, way)
            waits.remove((name, numbers, way))
            seen["looked"] += 1
        self.assertEqual(run.house.stream_rows(), run.count.stream_rows())
        for name, numbers, way in waits:
            refusal = tried(run.house, "let_in", name, Jar(*numbers), way)
            self.assertIs(type(refusal), Taken if name in run.names() else TooMuch)


if __name__ == "__main__":
    unittest.main()
