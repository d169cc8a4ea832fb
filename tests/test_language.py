"""The package's files keep to LANGUAGE.md, as far as the reader in language.py can tell."""

import pathlib
import unittest

from tests.language import breaches

FOLDER = pathlib.Path(__file__).resolve().parent.parent / "hourlanes"
# What is wrong, and the rule by which the reader must say so: else the tests here would prove nothing.
WRONG = [
    ("L2", "import os\n"),
    ("L2", "from json import loads\n\n\ndef f():\n    return loads\n"),
    ("L2", "from .b import g\n\n\ndef f():\n    return g\n"),
    ("L2", "from hourlanes.b import g\n"),
    ("L16", "from hourlanes.b import other\n\n\ndef f():\n    return other\n"),
    ("L3", "ONE = len('a')\n"),
    ("L3", "if True:\n    ONE = 1\n"),
    ("L3", "def g():\n    return 1\n\n\nALL = {'g': g}\n\n\ndef f(x):\n    return ALL[x]()\n"),
    ("L4", "def f(a, /):\n    return a\n"),
    ("L4", "def f():\n    return lambda *xs: xs\n"),
    ("L7", "def f(rows):\n    return f(*rows[0])\n"),
    ("L13", "def f():\n    return [lambda x: 1, lambda x: 2]\n"),
    ("L19", "class A(ValueError):\n    pass\n\n\nclass B(ValueError):\n    pass\n\n\ndef f(x):\n    try:\n"
            "        return f(x)\n    except A as e:\n        return str(e)\n"
            "    except B as e:\n        return str(e)\n"),
    ("L28", "class C:\n    def __len__(self):\n        return self.many()\n\n    def many(self):\n        return 1\n"),
    ("L4", "def f(a=[]):\n    return a\n"),
    ("L5", "class C:\n    def __hash__(self):\n        return 1\n"),
    ("L5", "def f():\n    class C:\n        pass\n    return C()\n"),
    ("L6", "def f():\n    global x\n    return x\n"),
    ("L6", "def f(x):\n    x == 1\n"),
    ("L7", "def f(x):\n    return x / 2\n"),
    ("L7", "def f(x):\n    return x * 1.5\n"),
    ("L7", "def f(xs):\n    return any(x for x in xs)\n"),
    ("L8", "def f(x):\n    return chr(x)\n"),
    ("L8", "def f(xs):\n    return map(len, xs)\n"),
    ("L10", "def f():\n" + "    pass\n" * 41),
    ("L10", "ONE = 1\n" * 401),
    ("L10", "# " + "x" * 119 + "\n"),
    ("L12", "def f(xs):\n    return [1 for _ in xs]\n"),
    ("L12", "def _f():\n    return 1\n"),
    ("L14", "# a\tb\n"),
    ("L15", "ONE = 1\nONE = 2\n"),
    ("L15", "def f(min):\n    return min\n"),
    ("L15", "def f():\n    hash = 1\n    return hash\n"),
    ("L15", "from hourlanes.b import g\n\n\ndef f(g):\n    return g\n"),
    ("L17", "# a type of lane\n"),
    ("L17", "def f(open):\n    return open\n"),
    ("L18", "def f(x):\n    return x.nowhere\n"),
    ("L18", "class C:\n    def many(self):\n        self.many = 1\n"),
    ("L19", "def f(x):\n    try:\n        return x[0]\n    except Exception:\n        return 1\n"),
    ("L19", "def f(x):\n    raise x\n"),
    ("L20", "def f(x, y):\n    return x is y\n"),
    ("L22", "def f(x):\n    return int(x, base=10)\n"),
    ("L23", "def f(x):\n    y = range(x)\n    return y\n"),
    ("L23", "def f(d):\n    return d.items()\n"),
    ("L23", "def f(xs):\n    for x in xs:\n        xs.append(x)\n"),
    ("L23", "def f(xs):\n    for at, x in enumerate(xs):\n        xs[at] = 1\n"),
    ("L24", "def f(xs):\n    for x in set(xs):\n        return x\n"),
    ("L24", "def f(xs):\n    return {x for x in xs}\n"),
    ("L25", "def f(xs):\n    xs.sort()\n"),
    ("L25", "def f(x):\n    return x.encode_all()\n"),
    ("L26", "class C:\n    def __init__(self):\n        self.items = 1\n"),
    ("L27", "def f(n):\n    return 2 ** n\n"),
    ("L27", "ONE = 'a%'\n"),
    ("L27", "ONE = '\\x41'\n"),
    ("L28", "class C:\n    def __init__(self):\n        return None\n"),
    ("L28", "class C:\n    def __str__(self):\n        self.b = 1\n        return ''\n"),
]
GOOD = '''"""A file."""

from hourlanes.b import g

ONE = 10 ** 9


class Box:
    """A box."""

    def __init__(self, many=ONE):
        self.many = many

    def __eq__(self, other):
        return isinstance(other, Box) and self.many == other.many


def f(rows):
    found = {}
    for at, row in enumerate(rows):
        found[row] = found.get(row, 0) + at
    return [g(key) for key in sorted(found) if key is not None] + sorted(set(rows))
'''


def sources():
    return {path.name: path.read_text(encoding="utf-8") for path in sorted(FOLDER.glob("*.py"))}


class LanguageTest(unittest.TestCase):
    def test_folder_has_plain_files_alone(self):
        found = [path.name for path in FOLDER.iterdir() if path.name != "__pycache__"]
        for name in found:
            self.assertRegex(name, r"^[a-z0-9_]+\.py$")
        self.assertIn("__init__.py", found)

    def test_the_package_keeps_the_rules(self):
        self.assertEqual(breaches(sources()), [])

    def test_the_reader_lets_good_files_be(self):
        self.assertEqual(breaches({"a.py": GOOD, "b.py": "def g(x):\n    return x\n"}), [])

    def test_the_reader_sees_what_is_wrong(self):
        for rule, text in WRONG:
            told = breaches({"a.py": text, "b.py": "def g(x):\n    return x\n"})
            self.assertIn(rule, [each for each, file, line in told if file == "a.py"], text)

    def test_the_reader_sees_rings_of_imports(self):
        one = "from hourlanes.b import g\n\n\ndef f():\n    return g\n"
        other = "from hourlanes.a import f\n\n\ndef g():\n    return f\n"
        self.assertIn(("L16", "a.py", 1), breaches({"a.py": one, "b.py": other}))


if __name__ == "__main__":
    unittest.main()
