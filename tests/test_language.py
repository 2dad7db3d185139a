"""The package's files keep what a script can see of LANGUAGE.md, and the script sees it where they don't."""

import os
import shutil
import sys
import tempfile
import unittest

sys.path.insert(0, os.path.dirname(os.path.abspath(__file__)))

from language import faults, folder_faults  # noqa: E402

ROOT = os.path.dirname(os.path.dirname(os.path.abspath(__file__)))
PACKAGE = os.path.join(ROOT, "homeshold")

GOOD = (
    "",
    '"""A docstring."""\n',
    "def go(x):\n    return x\n",
    "def go():\n" + "    x = 1\n" * 38 + "    return x\n",
    "x = 1\n" * 399,
    "x = '" + "a" * 114 + "'\n",
    "def go(xs):\n    for _ in xs:\n        pass\n    first, _ = xs\n    return first\n",
    "class Box:\n    def __init__(self, n):\n        self._n = n\n        self._walls = n\n",
    "class Box:\n    def _walled(self):\n        return self._walled()\n",
    "WORD = 'type'\n",
    '"""No enum, no dataclass."""\nX = 1  # no typing, no overload\n',
    "X = 'a\\n\\t\\\\\\''\n",
    "X = b'\\x00'\n",
    "X = 10 ** 30\n",
    "X = '_-.'\n",
    "X = '__main__'\n",
    "X = 'a __b and f_code'\n",
    "from homeshold.basics import is_name\n",
    "from heapq import heappush, heappop\n",
    "def go(x):\n    return f'{x} of {x}'\n",
    "def go(xs):\n    return any([x for x in xs]) or ', '.join(x for x in xs).find('a') > 0\n",
    "class Box:\n    def told(self):\n        return self.told()\n",
    "from homeshold.basics import is_name\n\n\ndef go(name):\n    return is_name(name)\n",
)

BAD = (
    ("L10", "def go():\n" + "    x = 1\n" * 39 + "    return x\n"),
    ("L10", "class Box:\n    def go(self):\n" + "        x = 1\n" * 39 + "        return x\n"),
    ("L10", "@property\ndef go():\n" + "    x = 1\n" * 38 + "    return x\n"),
    ("L10", "x = 1\n" * 400),
    ("L10", "x = '" + "a" * 115 + "'\n"),
    ("L10", "# " + "a" * 119 + "\n"),
    ("L10", "def go():\n\treturn 1\n"),
    ("L10", "x = 1  #\ta\n"),
    ("L14", "x = '\u00e4'\n"),
    ("L14", "# \u2026\n"),
    ("L14", '"""A \u00df."""\n'),
    ("L14", "x = 1\r\ny = 2\n"),
    ("L14", "x = 1\x0c\n"),
    ("L14", "x = 1  # \x7f\n"),
    ("L12", "def __go():\n    return 1\n"),
    ("L12", "class Box:\n    def __hash__(self):\n        return 1\n"),
    ("L12", "def go(__x):\n    return 1\n"),
    ("L12", "def go(x):\n    return x.__dict__\n"),
    ("L12", "_1 = 1\n"),
    ("L12", "class _Box:\n    pass\n"),
    ("L12", "def go(xs):\n    for _ in xs:\n        return _\n"),
    ("L12", "X = 1  # a _wall\n"),
    ("L12", "X = 'a _WallAttr'\n"),
    ("L12", "def _walls():\n    return 1\n"),
    ("L12", "_pe_x = 1\n"),
    ("L12", "def go(_enum_x):\n    return 1\n"),
    ("L12", "class Box:\n    def go(self):\n        self._law_x = 1\n"),
    ("L12", "_sreads = 1\n"),
    ("L12", "_record = 1\n"),
    ("L12", "_cold_2 = 1\n"),
    ("L12", "def go():\n    return x._outside\n"),
    ("L17", "register = 1\n"),
    ("L17", "def go(open):\n    return 1\n"),
    ("L17", "def law():\n    return 1\n"),
    ("L17", "class Box:\n    def mro(self):\n        return 1\n"),
    ("L17", "def go(x):\n    return x.elements\n"),
    ("L17", "def go(x):\n    return go(input=x)\n"),
    ("L17", "def go():\n    try:\n        return 1\n    except KeyError as version_info:\n        return 2\n"),
    ("L17", "def go(x):\n    return x.tb_next\n"),
    ("L17", "co_names = 1\n"),
    ("L17", "def id():\n    return 1\n"),
    ("L17", "def go(vars):\n    return 1\n"),
    ("L17", "def go():\n    return globals()\n"),
    ("L17", "class Box:\n    def eval(self):\n        return 1\n"),
    ("L17", "def go(x):\n    return type(x)\n"),
    ("L17", "X = 'an enum'\n"),
    ("L17", "Flag = 1\n"),
    ("L17", "X = 'Protocol'\n"),
    ("L17", "my_dataclasses = 1\n"),
    ("L17", "X = 'overloaded'\n"),
    ("L17", "def go(x):\n    return f'{x} namedtuple'\n"),
    ("L27", "X = '5%'\n"),
    ("L27", '"""A docstring with %."""\n'),
    ("L27", "def go(x):\n    return f'{x} %'\n"),
    ("L27", "X = b'%'\n"),
    ("L27", "X = '\\x00'\n"),
    ("L27", "X = '\\r'\n"),
    ("L27", '"""A \\u0041."""\n'),
    ("L27", "def go(x):\n    return f'{x} \\a'\n"),
    ("L27", "X = '-._'\n"),
    ("L27", "X = 'a.__'\n"),
    ("L27", "X = 'f_code'\n"),
    ("L27", "X = 'tb_next'\n"),
    ("L27", "X = '__odd__'\n"),
    ("L27", "X = '__a b__'\n"),
    ("L27", "X = 'a.__x'\n"),
    ("L27", "X = '{__x}'\n"),
    ("L27", "X = 'a.f_code'\n"),
    ("L27", "X = 2 ** 65\n"),
    ("L27", "def go(n):\n    return 2 ** n\n"),
    ("L27", "def go(n):\n    n **= n\n    return n\n"),
    ("L27", "def go(n):\n    return chr(n)\n"),
    ("L27", "X = " + "9" * 901 + "\n"),
    ("L27", "X = 1if 2 else 3\n"),
    ("L27", "X = '\\d'\n"),
    ("L2", "import os\n"),
    ("L2", "from os import path\n"),
    ("L2", "from homeshold.basics import *\n"),
    ("L2", "from .basics import is_name\n"),
    ("L2", "from heapq import heappush as push\n"),
    ("L6", "def go():\n    global X\n    X = 1\n"),
    ("L7", "X = 1.5\n"),
    ("L6", "X = 1 / 2\n"),
    ("L8", "def go(x):\n    return hash(x)\n"),
    ("L15", "def go(min):\n    return 1\n"),
    ("L1", "def go(:\n"),
    ("L7", "def go(xs):\n    return any(x for x in xs)\n"),
    ("L7", "def go(xs):\n    return 1 + max((x for x in xs), default=0)\n"),
    ("L25", "def go(xs):\n    xs.sort()\n"),
    ("L25", "def go(x):\n    return x.told()\n"),
    ("L25", "def go(x):\n    return x.union(x)\n"),
    ("L15", "from homeshold.basics import is_name\n\n\ndef go(is_name):\n    return is_name\n"),
    ("L15", "from homeshold.basics import is_name\n\n\ndef go(xs):\n    return [1 for is_name in xs]\n"),
    ("L15", "class Box:\n    pass\n\n\ndef go(xs):\n    Box = 1\n    return Box\n"),
)


class TestPackage(unittest.TestCase):
    def test_the_files(self):
        self.assertEqual(folder_faults(PACKAGE), [])

    def test_there_are_files(self):
        self.assertIn("errors.py", os.listdir(PACKAGE))
        self.assertIn("__init__.py", os.listdir(PACKAGE))


class TestScript(unittest.TestCase):
    def test_good(self):
        for source in GOOD:
            with self.subTest(source[:60]):
                self.assertEqual(faults(source), [])

    def test_bad(self):
        for rule, source in BAD:
            with self.subTest(rule=rule, source=source[:60]):
                self.assertIn(rule, [fault[0] for fault in faults(source)])

    def test_rows(self):
        found = faults("X = 1\nY = '5%'\n")
        self.assertEqual([fault[:2] for fault in found], [("L27", 2)])


class TestFolder(unittest.TestCase):
    def setUp(self):
        above = tempfile.mkdtemp()
        self.addCleanup(shutil.rmtree, above)
        self.folder = os.path.join(above, "homeshold")
        os.mkdir(self.folder)

    def write(self, name, source):
        os.makedirs(os.path.dirname(os.path.join(self.folder, name)), exist_ok=True)
        with open(os.path.join(self.folder, name), "w", encoding="utf-8", newline="") as file:
            file.write(source)

    def rules(self):
        return [fault[1] for fault in folder_faults(self.folder)]

    def test_good(self):
        self.write("__init__.py", "")
        self.write("basics.py", "X = 1\n")
        self.assertEqual(self.rules(), [])

    def test_a_fault_in_a_file(self):
        self.write("__init__.py", "")
        self.write("basics.py", "X = 1 ** 65\n")
        self.assertEqual(self.rules(), ["L27"])

    def test_without_init(self):
        self.write("basics.py", "X = 1\n")
        self.assertEqual(self.rules(), ["L14"])

    def test_file_names(self):
        for name in ("Basics.py", "a-b.py", "open.py", "tests.py", "test_a.py", "law_a.py", "sum.py", "math.py"):
            with self.subTest(name):
                self.setUp()
                self.write("__init__.py", "")
                self.write(name, "X = 1\n")
                self.assertEqual(self.rules(), ["L14"])

    def test_another_kind_of_file(self):
        self.write("__init__.py", "")
        self.write("notes.txt", "")
        self.assertEqual(self.rules(), ["L14"])

    def test_a_folder_of_the_same_name(self):
        self.write("__init__.py", "")
        self.write("basics.py", "")
        self.write("basics/__init__.py", "")
        self.assertEqual(self.rules(), ["L14"])

    def test_methods_of_other_files(self):
        self.write("__init__.py", "")
        self.write("boxes.py", "class Box:\n    def told(self):\n        return 1\n")
        self.write("basics.py", "def go(box):\n    return box.told()\n")
        self.assertEqual(self.rules(), [])
        self.write("basics.py", "def go(box):\n    return box.telling()\n")
        self.assertEqual(self.rules(), ["L25"])

    def test_too_many_files(self):
        self.write("__init__.py", "")
        for k in range(100):
            self.write("file" + str(k) + ".py", "")
        self.assertEqual(self.rules(), ["L14"])


if __name__ == "__main__":
    unittest.main()
