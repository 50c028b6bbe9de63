"""The package's form: LANGUAGE.md's rules, for every file of the package."""

import pathlib
import unittest

import gaugeblocks
from form import import_faults, name_faults, source_faults

FOLDER = pathlib.Path(gaugeblocks.__file__).parent
OUTSIDE = {
    "L2": ["import os\n", "from math import isqrt\n", "from gaugeblocks.limits import *\n",
           "from .limits import unit_of\n", "def f():\n    from gaugeblocks.limits import unit_of\n"],
    "L3": ["for k in range(3):\n    pass\n", "a = 1 + 1\n"],
    "L4": ["def f(*xs):\n    return 1\n", "def f(*, x):\n    return 1\n", "@g\ndef f(x):\n    return 1\n"],
    "L6": ["def f(x):\n    assert x\n", "class C:\n    pass\n", "def f():\n    a = b = 1\n", "def f(x):\n    x\n",
           "def f(x):\n    while x:\n        x = 0\n    else:\n        x = 1\n"],
    "L7": ["a = 1.5\n", "def f(x):\n    return x / 2\n", "def f(x):\n    return {x}\n", "a = b\"x\"\n",
           "def f(x):\n    return sum(k for k in x)\n", "def f(x):\n    return (y := x)\n",
           "def f(x):\n    return [a for b in x for a in b]\n"],
    "L8": ["def f(x):\n    return pow(x, 2)\n", "def f(x):\n    len = x\n    return 1\n"],
    "L10": ["a = 1\n" + "\n" * 400, "a = \"" + "x" * 120 + "\"\n", "def f(x):\n" + "    x += 1\n" * 40],
    "L12": ["def f(xs):\n    for _ in xs:\n        pass\n", "def _f():\n    return 1\n"],
    "L14": ["# caf\u00e9\n", "def f():\n\treturn 1\n"],
    "L15": ["a = 1\na = 2\n", "def f(max):\n    return 1\n",
            "from gaugeblocks.limits import unit_of\n\n\ndef f(unit_of):\n    return 1\n",
            "from gaugeblocks.limits import unit_of\n\n\ndef f(x):\n    unit_of = x\n    return unit_of\n"],
    "L17": ["# the type of it\n", "def f(x):\n    return getattr(x, 1)\n"],
    "L20": ["def f(x, y):\n    return x is y\n"],
    "L21": ["def f(x: int):\n    return x\n"],
    "L22": ["def f():\n    k = len\n    return k\n"],
    "L23": ["def f():\n    k = range(3)\n    return k\n", "def f():\n    return list(reversed(range(3)))\n",
            "def f(xs):\n    for x in xs:\n        xs.append(x)\n"],
    "L25": ["def f(xs):\n    xs.sort()\n", "def f(xs):\n    k = xs.append\n    return k\n"],
    "L27": ["def f(n):\n    return 2 ** n\n", "a = \"50%\"\n", "a = \"\\x41\"\n"],
}
WITHIN = '''"""A file."""

from gaugeblocks.limits import unit_of

GREATEST = 21
LEAST = -3
ROWS = [1, 2, (3, 4)]


def f(n, g=2):
    """What it does."""
    rows = []
    for k, row in enumerate(ROWS):
        rows.append(k << g if row is None else row)
    while n > 0 and not n == 7:
        n -= unit_of(n) ** 2
    return [x for x in rows if x in list(range(9))] + sorted(rows, key=len)[1:]
'''


class Package(unittest.TestCase):
    def files(self):
        return sorted(path for path in FOLDER.rglob("*") if "__pycache__" not in path.parts)

    def test_names_of_the_files(self):
        self.assertIn(FOLDER / "__init__.py", self.files())
        self.assertIn(FOLDER / "sizes.py", self.files())
        for path in self.files():
            self.assertEqual(path.parent, FOLDER)
            self.assertEqual(name_faults(path.name), [])

    def test_each_file(self):
        for path in self.files():
            self.assertEqual(source_faults(path.read_bytes().decode("utf-8")), [], path.name)

    def test_imports_between_the_files(self):
        self.assertEqual(import_faults({path.stem: path.read_text() for path in self.files()}), [])


class Finder(unittest.TestCase):
    """The finder itself: without these, one that finds nothing would pass."""

    def test_what_is_outside(self):
        for rule, sources in OUTSIDE.items():
            for source in sources:
                faults = source_faults(source)
                self.assertTrue(any(fault.startswith(rule + " ") for fault in faults), (rule, source, faults))

    def test_what_is_within(self):
        self.assertEqual(source_faults(WITHIN), [])

    def test_names(self):
        for name in ("tests.py", "test_a.py", "len.py", "Sizes.py", "a.txt", "a-b.py", "site.py", "enum.py"):
            self.assertNotEqual(name_faults(name), [], name)

    def test_imports(self):
        ring = {"a": "from gaugeblocks.b import g\ndef f():\n    return g()\n",
                "b": "from gaugeblocks.a import f\ndef g():\n    return f()\n"}
        self.assertEqual(len(import_faults(ring)), 2)
        self.assertEqual(len(import_faults({"a": "from gaugeblocks.b import g\n", "b": "h = 1\n"})), 1)


if __name__ == "__main__":
    unittest.main()
