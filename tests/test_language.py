"""The package keeps to ../shared/LANGUAGE.md as far as a script can see it."""

import pathlib
import unittest

import roundstairs
from tests.language import faults

FOLDER = pathlib.Path(roundstairs.__file__).parent

# A rule, and code that breaks it.
BROKEN = (
    ("L2", "def f():\n    from roundstairs.rows import noughts\n    return noughts(1)\n"),
    ("L2", "LOW = 1\nfrom roundstairs.rows import noughts\n"),
    ("L2", "from math import sqrt\n"),
    ("L2", "from math import gcd as common\n"),
    ("L2", "from math import gcd\ndef f(g):\n    return g(gcd)\n"),
    ("L2", "from math import gcd\ndef f(x):\n    return gcd(x, other=x)\n"),
    ("L3", "LOW, HIGH = 1, 2\n"),
    ("L3", "LOW = len('a')\n"),
    ("L3", "LOWS = [1, 2]\n"),
    ("L3", "if True:\n    LOW = 1\n"),
    ("L3", "LOW = HIGH = 1\n"),
    ("L4", "def f(*xs):\n    return xs\n"),
    ("L4", "def f(x=[]):\n    return x\n"),
    ("L4", "def f(x):\n    def g():\n        return 1\n    return g()\n"),
    ("L5", "class Box:\n    def __eq__(self, other):\n        return True\n"),
    ("L5", "class Box:\n    low = []\n"),
    ("L5", "class Box(list):\n    def low(self):\n        return 1\n"),
    ("L6", "import os\n"),
    ("L6", "def f(x):\n    yield x\n"),
    ("L6", "def f(x):\n    try:\n        return x\n    except Exception:\n        return 1\n"),
    ("L6", "def f(x):\n    global LOW\n    LOW = x\n"),
    ("L6", "def f(x):\n    return lambda y: x\n"),
    ("L6", "def f(x):\n    return {1, x}\n"),
    ("L6", "def f(x):\n    return x / 2\n"),
    ("L6", "def f(x):\n    return 2 ** x\n"),
    ("L6", "def f(x):\n    return f'{x}'\n"),
    ("L6", "def f(x):\n    x\n    return x\n"),
    ("L6", "def f(x):\n    return x\n    'a'\n"),
    ("L7", "def f():\n    return 1.5\n"),
    ("L7", "def f():\n    return b'a'\n"),
    ("L7", "def f(xs):\n    ys = (x for x in xs)\n    return list(ys)\n"),
    ("L7", "def f(xs):\n    return max(*xs)\n"),
    ("L8", "def f(x):\n    return eval(x)\n"),
    ("L8", "def f(x):\n    return set(x)\n"),
    ("L8", "def f(x):\n    print(x)\n"),
    ("L10", "LOW = " + " + ".join(["1"] * 50) + "\n"),
    ("L10", "LOW = 1\n" + "\n" * 400),
    ("L10", "def f(x):\n" + "    x = 1\n" * 40 + "    return x\n"),
    ("L10", "def f(x):\n\treturn x\n"),
    ("L12", "def __low(x):\n    return x\n"),
    ("L12", "def f(_):\n    return _\n"),
    ("L14", "LOW = '\u20ac'\n"),
    ("L15", "LOW = 1\nLOW = 2\n"),
    ("L15", "def f(x):\n    sum = x\n    return sum\n"),
    ("L15", "def f(round):\n    return round\n"),
    ("L15", "LOWS = (1, 2)\ndef f():\n    LOWS[0] = 1\n"),
    ("L15", "from roundstairs.rows import noughts\ndef f(noughts):\n    return noughts\n"),
    ("L15", "from math import gcd\ndef f(gcd):\n    return gcd\n"),
    ("L16", "from roundstairs.books import is_row\n"),
    ("L16", "from roundstairs.rows import *\n"),
    ("L16", "from .rows import noughts\n"),
    ("L16", "from .math import gcd\n"),
    ("L16", "from itertools import product\n"),
    ("L16", "from roundstairs.rows import noughts as zeros\n"),
    ("L17", "def f(elements):\n    return elements\n"),
    ("L17", "def f(x):\n    return type(x)\n"),
    ("L17", "def f():\n    return 'typing'\n"),
    ("L18", "class Bad(ValueError):\n    pass\ndef f():\n    return [Bad]\n"),
    ("L19", "class Bad(ValueError):\n    pass\ndef f():\n    why = Bad('a')\n    raise why\n"),
    ("L20", "def f(x, y):\n    return x is y\n"),
    ("L21", "def f(x: int):\n    return x\n"),
    ("L22", "def f(xs):\n    return sorted(xs, key=len)\n"),
    ("L22", "def f(xs):\n    return int(xs, base=3)\n"),
    ("L23", "def f(xs):\n    pairs = zip(xs, xs)\n    return list(pairs)\n"),
    ("L23", "def f(g, xs):\n    return g(range(3))\n"),
    ("L23", "def f(xs):\n    for x in xs:\n        xs.append(x)\n"),
    ("L23", "def f(xs):\n    for k, x in enumerate(xs):\n        xs[k] = x\n"),
    ("L25", "def f(x):\n    return x.encode()\n"),
    ("L25", "def f(x):\n    return x.append\n"),
    ("L27", "LOW = 'a%'\n"),
    ("L27", "LOW = 'a\\x00'\n"),
    ("L27", "LOW = '__low__'\n"),
    ("L27", "def f(x):\n    return 1if x else 2\n"),
    ("L27", "def f(x:\n"),
    ("L28", "class Box:\n    def __init__(self):\n        return None\n"),
)

RIGHT = (
    "from math import gcd\n\n\ndef f(x, y):\n    return gcd(x, y)\n",
    "LOW = 1\nPAIR = (1, (-2, 'a'))\n",
    "def f(xs):\n    for k, x in enumerate(xs):\n        if x is not None:\n            return k\n    return len(xs)\n",
    "def f(xs, ys):\n    return sum([x * y for x, y in zip(xs, ys)]) % 3\n",
    "def f(xs):\n    return all(isinstance(x, (int, str)) for x in xs)\n",
    "from roundstairs.rows import noughts\n\n\ndef f(n):\n    rows = [noughts(k) for k in range(n)]\n"
    "    rows.append(())\n    return tuple(sorted(rows, reverse=True))\n",
    "class Bad(ValueError):\n    def __init__(self, x):\n        self.x = x\n\n\ndef f(x):\n    raise Bad(x)\n",
)


def package_files():
    return {path.name: path.read_text(encoding="utf-8") for path in FOLDER.glob("*.py")}


class PackageTest(unittest.TestCase):

    def test_no_faults(self):
        self.assertEqual(faults(package_files()), [])

    def test_nothing_else_is_in_the_folder(self):
        names = [path.name for path in FOLDER.iterdir() if path.name != "__pycache__"]
        self.assertEqual(sorted(names), sorted(package_files()))
        self.assertIn("__init__.py", names)
        self.assertLessEqual(len(names), 100)


class CheckTest(unittest.TestCase):
    """The check sees what it is there to see."""

    def test_broken_rules_are_seen(self):
        for rule, code in BROKEN:
            with self.subTest(code):
                found = faults({**package_files(), "tried.py": code})
                self.assertTrue([fault for fault in found if fault.startswith(rule + " tried.py")], found)

    def test_right_code_has_no_faults(self):
        for code in RIGHT:
            with self.subTest(code):
                self.assertEqual(faults({**package_files(), "tried.py": code}), [])

    def test_names_of_files(self):
        for name in ("Tried.py", "test_tried.py", "len.py", "math.py", "tests.py", "law_a.py"):
            found = faults({**package_files(), name: ""})
            self.assertEqual([fault for fault in found if not fault.startswith("L14 " + name)], [])
            self.assertEqual(len(found), 1)

    def test_files_that_import_from_each_other(self):
        one = "from roundstairs.two import g\n\n\ndef f(x):\n    return g(x)\n"
        two = "from roundstairs.one import f\n\n\ndef g(x):\n    return f(x)\n"
        found = faults({**package_files(), "one.py": one, "two.py": two})
        self.assertEqual([fault[:10] for fault in found], ["L16 one.py", "L16 two.py"])

    def test_a_folder_without_init(self):
        files = package_files()
        del files["__init__.py"]
        self.assertTrue(any(fault.startswith("L14 __init__.py") for fault in faults(files)))
