"""The package keeps to LANGUAGE.md; and the checker finds what breaks it."""

import unittest
from pathlib import Path

from tests.language import breaches, package_sources

FOLDER = Path(__file__).resolve().parent.parent / "stillends"

BREACHES = (
    ("L2", "import os\n"),
    ("L2", "from stillends.a import f as g\n"),
    ("L16", "from stillends.a import missing\n"),
    ("L3", "def f():\n    pass\n\n\nf()\n"),
    ("L3", "X = len([1])\n"),
    ("L4", "def f(*, n):\n    return n\n"),
    ("L6", "def f():\n    global X\n"),
    ("L7", "def f(n):\n    return n / 2\n"),
    ("L7", "X = 1.5\n"),
    ("L8", "def f(n):\n    return hash(n)\n"),
    ("L10", "X = 1" + " " * 120 + "\n"),
    ("L10", "def f():\n" + "    pass\n" * 41),
    ("L10", "# x\n" * 400),
    ("L12", "def f():\n    __x = 1\n    return __x\n"),
    ("L12", "class _A:\n    pass\n"),
    ("L14", "# \u00e9\n"),
    ("L15", "def f(hash):\n    return hash\n"),
    ("L15", "class A:\n    pass\n\n\ndef f():\n    A = 1\n    return A\n"),
    ("L17", "def f(elements):\n    return elements\n"),
    ("L17", "def f(n):\n    return n.enum\n"),
    ("L18", "def f(n):\n    return n.strange\n"),
    ("L19", "def f():\n    try:\n        pass\n    except ValueError:\n        pass\n"),
    ("L19", "def f(e):\n    raise e\n"),
    ("L20", "def f(a, b):\n    return a is b\n"),
    ("L22", "def f(xs):\n    return sorted(xs, by=1)\n"),
    ("L23", "def f(xs):\n    ys = zip(xs, xs)\n    return ys\n"),
    ("L23", "def f(xs):\n    for x in xs:\n        xs.append(x)\n"),
    ("L24", "def f(xs):\n    for x in set(xs):\n        pass\n"),
    ("L24", "def f(xs):\n    ys = set(xs)\n    return ys\n"),
    ("L25", "def f(x):\n    return x.find_all()\n"),
    ("L27", "X = 'a%'\n"),
    ("L27", "X = '\\t\\x00'\n"),
    ("L27", "def f(n, m):\n    return n ** m\n"),
    ("L28", "class A:\n    def __init__(self):\n        return None\n"),
)


class LanguageTest(unittest.TestCase):
    def test_package(self):
        self.assertEqual(breaches(package_sources(FOLDER)), [])

    def test_checker_finds_breaches(self):
        for rule, text in BREACHES:
            found = breaches({"a.py": "def f():\n    return 1\n", "b.py": text})
            self.assertTrue([row for row in found if rule in row[2]], f"{rule} is not found in {text!r}")

    def test_checker_looks_at_files(self):
        self.assertTrue(breaches({"notes.txt": ""}))
        self.assertTrue(breaches({"A.py": ""}))
        self.assertTrue(breaches({"sum.py": ""}))
        ring = {"a.py": "from stillends.b import Y\n\nX = 1\n", "b.py": "from stillends.a import X\n\nY = 1\n"}
        self.assertTrue([row for row in breaches(ring) if "L16" in row[2]])
