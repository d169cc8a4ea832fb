"""Each module is there under its name, loads, and has what the document's interface lists, with its arguments."""

import importlib
import inspect
import pathlib
import subprocess
import sys
import unittest

ROOT = pathlib.Path(__file__).resolve().parent.parent
FUNCTIONS = {
    "flows": {"broken": "jar comes"},
    "carrying": {"carried": "width heap", "ran": "width lots", "tight": "width lots"},
    "names": {"is_name": "text", "wrong_at": "way lanes"},
    "reading": {"written": "plan", "plan_of": "text"},
    "judging": {"over": "scene"},
    "futures": {"future": "scene first end", "shown": "scene first end rows"},
    "lots": {"hours_of": "came way"},
    "raising": {"raised": "plan", "plan_now": "house"},
    "limits": {"least": "low high good", "greatest": "low high good", "least_wait": "house lane jar after=0",
               "quickest": "house jar lanes", "greatest_size": "house rate mouth way", "least_width": "house lane",
               "longest_shut": "house lane"},
    "rooms": {"room": "scene", "swell": "scene first last"},
    "books": {"looked": "book", "again": "book", "kept": "book"},
    "desk": {"answered": "text"},
}
CLASSES = {
    "jars": {"Jar": {"__init__": "size rate mouth", "told": ""}},
    "flows": {"Flow": {"__init__": "jar marks=None", "may": "", "come": "many=0", "ahead": "ticks",
                       "most": "after ticks", "bursts": "after ticks", "fits": "rows"}},
    "plans": {"Plan": {"__init__": "lanes streams", "__eq__": "other"}},
    "scenes": {"Scene": {"__init__": "width now knowns asks opens=0", "need": "first end", "holds": "first end",
                         "known_rows": "", "ask_rows": "", "with_ask": "flow after wait", "with_width": "width",
                         "with_opens": "opens"}},
    "house": {"House": {"__init__": "", "build": "name width", "let_in": "name jar way", "turn": "name jar way",
                        "let_go": "name", "widen": "lane width", "shut": "lane ticks", "tick": "comes=None",
                        "lane_rows": "", "stream_rows": "", "lot_rows": "", "standing": "lane", "most_of": "name",
                        "book": "", "scene": "lane"}},
    "doors": {"Door": {"__init__": "house", "wish": "name jar way", "look": "", "waiting": "", "drop": "name",
                       "__len__": ""}},
}
MODULES = ["errors", "jars", "flows", "carrying", "names", "plans", "reading", "scenes", "judging", "futures", "lots",
           "house", "raising", "limits", "rooms", "books", "doors", "desk"]


def told_arguments(made):
    return [str(each) for each in inspect.signature(made).parameters.values()]


class InterfaceTest(unittest.TestCase):
    def test_each_module_loads_alone(self):
        for module in MODULES:
            done = subprocess.run([sys.executable, "-c", f"import hourlanes.{module}"], cwd=ROOT, check=False,
                                  capture_output=True, text=True)
            self.assertEqual((done.returncode, done.stdout, done.stderr), (0, "", ""), module)

    def test_all_modules_are_asked(self):
        self.assertEqual(sorted(MODULES), sorted({"errors", *FUNCTIONS, *CLASSES}))

    def test_functions(self):
        for module, functions in FUNCTIONS.items():
            loaded = importlib.import_module("hourlanes." + module)
            for name, wanted in functions.items():
                self.assertEqual(told_arguments(getattr(loaded, name)), wanted.split(), name)

    def test_methods_stand_in_the_class_itself(self):
        for module, classes in CLASSES.items():
            loaded = importlib.import_module("hourlanes." + module)
            for name, methods in classes.items():
                for method, wanted in methods.items():
                    made = vars(getattr(loaded, name))[method]
                    self.assertEqual(told_arguments(made), ["self", *wanted.split()], (name, method))


if __name__ == "__main__":
    unittest.main()
