"""[0.3]: arguments by place and by their told names alike; what is handed in stays, and may be changed later."""

import copy
import importlib
import unittest

from hourlanes.doors import Door
from hourlanes.flows import Flow
from hourlanes.house import House
from hourlanes.jars import Jar
from hourlanes.plans import Plan
from hourlanes.scenes import Scene
from tests.counts import looks, looks_of_scene
from tests.test_interface import CLASSES, FUNCTIONS

JAR = (6, 1, 3)


def jar():
    return Jar(*JAR)


def flow():
    return Flow(jar(), 4)


def plan():
    return Plan([("a", 3), ("b", 2)], [("x", jar(), [("a", 3), ("b", 4)])])


def scene():
    return Scene(2, 5, [(6, 9, 3)], [(flow(), 1, 4)], 6)


def house():
    made = House()
    made.build("a", 3)
    made.build("b", 2)
    made.let_in("x", jar(), [("a", 3), ("b", 4)])
    made.tick({"x": 3})
    made.tick({"x": 1})
    return made


def door():
    made = Door(house())
    made.wish("w", Jar(60, 1, 60), [("a", 1)])
    return made


def good(number):
    return number > 3


# For each function what is handed in, by the names that the interface tells, in their order.
CALLED = {
    "broken": lambda: {"jar": jar(), "comes": [3, 3, 3]},
    "carried": lambda: {"width": 3, "heap": [(9, 2), (5, 2)]},
    "ran": lambda: {"width": 2, "lots": [(0, 2, 3), (1, 2, 1)]},
    "tight": lambda: {"width": 1, "lots": [(0, 2, 3), (1, 2, 1)]},
    "is_name": lambda: {"text": "abc"},
    "wrong_at": lambda: {"way": [("a", 1), ("c", 1)], "lanes": ["a", "b"]},
    "written": lambda: {"plan": plan()},
    "plan_of": lambda: {"text": "lane a 3\n"},
    "over": lambda: {"scene": scene()},
    "future": lambda: {"scene": scene(), "first": 6, "end": 12},
    "shown": lambda: {"scene": scene(), "first": 6, "end": 12, "rows": [(0, 5, 1, 3)]},
    "hours_of": lambda: {"came": 4, "way": [("a", 1), ("c", 5)]},
    "raised": lambda: {"plan": plan()},
    "plan_now": lambda: {"house": house()},
    "least": lambda: {"low": 1, "high": 9, "good": good},
    "greatest": lambda: {"low": 5, "high": 9, "good": good},
    "least_wait": lambda: {"house": house(), "lane": "a", "jar": jar(), "after": 2},
    "quickest": lambda: {"house": house(), "jar": jar(), "lanes": ["b", "a"]},
    "greatest_size": lambda: {"house": house(), "rate": 1, "mouth": 3, "way": [("a", 9), ("b", 9)]},
    "least_width": lambda: {"house": house(), "lane": "a"},
    "longest_shut": lambda: {"house": house(), "lane": "a"},
    "room": lambda: {"scene": scene()},
    "swell": lambda: {"scene": scene(), "first": 6, "last": 9},
    "looked": lambda: {"book": house().book()},
    "again": lambda: {"book": house().book()},
    "kept": lambda: {"book": house().book()},
    "answered": lambda: {"text": "lane a 3\nplan"},
}
MADE = {"Jar": jar, "Flow": flow, "Plan": plan, "Scene": scene, "House": house, "Door": door}
INITS = {
    "Jar": lambda: {"size": 6, "rate": 1, "mouth": 3},
    "Flow": lambda: {"jar": jar(), "marks": 4},
    "Plan": lambda: {"lanes": [("a", 3)], "streams": [("x", jar(), [("a", 3)])]},
    "Scene": lambda: {"width": 2, "now": 5, "knowns": [(6, 9, 3)], "asks": [(flow(), 1, 4)], "opens": 6},
    "House": dict,
    "Door": lambda: {"house": house()},
}
METHODS = {
    "come": {"many": 2}, "ahead": {"ticks": 3}, "most": {"after": 1, "ticks": 3}, "bursts": {"after": 1, "ticks": 3},
    "fits": {"rows": [(0, 1, 3)]}, "need": {"first": 6, "end": 12}, "holds": {"first": 5, "end": 12},
    "with_width": {"width": 7}, "with_opens": {"opens": 9}, "build": {"name": "c", "width": 4},
    "turn": {"name": "x", "jar": Jar(5, 1, 2), "way": [("b", 9)]}, "let_go": {"name": "x"},
    "widen": {"lane": "a", "width": 4}, "shut": {"lane": "b", "ticks": 1}, "tick": {"comes": {"x": 1}},
    "standing": {"lane": "a"}, "most_of": {"name": "x"}, "scene": {"lane": "b"}, "drop": {"name": "w"},
    "let_in": {"name": "y", "jar": Jar(1, 1, 1), "way": [("a", 9)]},
    "wish": {"name": "y", "jar": Jar(1, 1, 1), "way": [("a", 9)]},
    "with_ask": {"flow": Flow(Jar(6, 1, 3), 2), "after": 3, "wait": 5}, "__eq__": {"other": 5},
    "told": {}, "may": {}, "known_rows": {}, "ask_rows": {}, "lane_rows": {}, "stream_rows": {}, "lot_rows": {},
    "book": {}, "look": {}, "waiting": {}, "__len__": {},
}


def plain(thing):
    """What can be seen of a thing, so that two of them can be compared."""
    if isinstance(thing, House):
        return looks(thing)
    if isinstance(thing, Scene):
        return looks_of_scene(thing)
    if isinstance(thing, Flow):
        return (thing.jar.told(), thing.marks)
    if isinstance(thing, Plan):
        return (thing.lanes, thing.streams)
    if isinstance(thing, Door):
        return (thing.waiting(), looks(thing.house))
    if isinstance(thing, (list, tuple)):
        return [str(thing.__class__)] + [plain(each) for each in thing]
    if isinstance(thing, dict):
        return {name: plain(each) for name, each in thing.items()}
    return thing


class ArgumentsTest(unittest.TestCase):
    def assert_alike(self, call, given, again):
        """By place and by names the same is told; and what is handed in is as it was."""
        ahead = plain(given)
        told = call(*given.values())
        self.assertEqual(plain(given), ahead)
        turned = dict(reversed(list(again.items())))
        self.assertEqual(plain(told), plain(call(**again)))
        return told, turned

    def test_functions(self):
        names = [(module, name) for module, functions in FUNCTIONS.items() for name in functions]
        self.assertEqual({name for module, name in names}, set(CALLED))
        for module, name in names:
            function = getattr(importlib.import_module("hourlanes." + module), name)
            given = CALLED[name]()
            self.assertEqual([each.split("=")[0] for each in FUNCTIONS[module][name].split()], list(given), name)
            told, turned = self.assert_alike(function, given, CALLED[name]())
            self.assertEqual(plain(function(**turned)), plain(told), name)

    def test_classes(self):
        for module, classes in CLASSES.items():
            for name, methods in classes.items():
                made = getattr(importlib.import_module("hourlanes." + module), name)
                told, turned = self.assert_alike(made, INITS[name](), INITS[name]())
                self.assertEqual(plain(made(**turned)), plain(told), name)
                self.assertEqual([each.split("=")[0] for each in methods["__init__"].split()], list(INITS[name]()))

    def test_methods(self):
        for classes in CLASSES.values():
            for name, methods in classes.items():
                for method in methods:
                    if method != "__init__":
                        self.assert_method(MADE[name], method)

    def assert_method(self, made, method):
        one, other, third = made(), made(), made()
        given = copy.deepcopy(METHODS[method])
        ahead = plain(given)
        told = getattr(one, method)(*given.values())
        self.assertEqual(plain(given), ahead, method)
        turned = dict(reversed(list(given.items())))
        for each in [other, third]:
            by_names = getattr(each, method)(**(given if each is other else turned))
            self.assertEqual(plain(by_names), plain(told), method)
            self.assertEqual(plain(each), plain(one), method)

    def test_what_may_be_left_out(self):
        self.assertEqual(Flow(jar()).marks, 6)
        self.assertEqual(Flow(jar(), None).marks, 6)
        self.assertEqual(Scene(2, 5, [], []).opens, 0)
        one, other, third = house(), house(), house()
        self.assertEqual((one.tick(), other.tick(None), third.tick({})), ([], [], []))
        self.assertEqual(looks(one), looks(other))
        self.assertEqual(looks(one), looks(third))
        self.assertEqual((flow().come(), flow().come(0)), (5, 5))


class LaterTest(unittest.TestCase):
    """What is handed in is changed afterwards, without effect."""

    def changed(self, made, given, changes):
        """What can be seen of what is made, ahead of the changes and behind them."""
        thing = made(*given)
        ahead = plain(thing)
        changes(*given)
        self.assertEqual(plain(thing), ahead)
        self.assertNotEqual(plain(made(*given)), ahead)

    def test_plans(self):
        def changes(lanes, streams):
            streams[0][2].append(["b", 1])
            streams.append(["y", jar(), [["a", 1]]])
            lanes.append(("c", 1))
        self.changed(Plan, ([("a", 3), ("b", 1)], [["x", jar(), [["a", 3]]]]), changes)

    def test_scenes(self):
        def changes(width, now, knowns, asks):
            knowns.append((7, 8, 1))
            asks[0][0].come(3)
            asks.append((flow(), 1, 1))
        self.changed(Scene, (2, 5, [(6, 9, 3)], [[flow(), 1, 4]]), changes)

    def test_scenes_with_an_ask_more(self):
        given = flow()
        more = scene().with_ask(given, 2, 3)
        ahead = plain(more)
        given.come(3)
        self.assertEqual(plain(more), ahead)

    def test_houses(self):
        made = house()
        way, comes = [["a", 9]], {"y": 1}
        made.let_in("y", Jar(2, 1, 1), way)
        made.tick(comes)
        ahead = looks(made)
        way[0][1] = 5
        way.append(["b", 9])
        comes["y"] = 2
        self.assertEqual(looks(made), ahead)
        made.turn("y", Jar(2, 1, 1), way)
        ahead = looks(made)
        way.clear()
        self.assertEqual(looks(made), ahead)

    def test_books(self):
        module = importlib.import_module("hourlanes.books")
        book = house().book()
        made = module.again(book)
        ahead = looks(made)
        book.clear()
        self.assertEqual(looks(made), ahead)

    def test_a_door_leads_its_house(self):
        led = house()
        made = Door(led)
        made.wish("y", Jar(1, 1, 1), [("a", 9)])
        self.assertEqual([row[0] for row in led.stream_rows()], ["x", "y"])
        led.let_go("y")
        self.assertIs(made.wish("y", Jar(1, 1, 1), [("a", 9)]), True)


if __name__ == "__main__":
    unittest.main()
