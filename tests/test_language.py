"""The rules of the language over all files of the package, and whether these looks see a breach at all."""

import os
import unittest
import warnings

from language_rules import breaches

FOLDER = os.path.join(os.path.dirname(os.path.dirname(os.path.abspath(__file__))), "pressworlds")


def package_files():
    files = {}
    for name in sorted(os.listdir(FOLDER)):
        if name != "__pycache__":
            with open(os.path.join(FOLDER, name), encoding="utf-8", newline="") as file:
                files[name] = file.read()
    return files


class TestPackage(unittest.TestCase):
    def test_no_breaches(self):
        self.assertEqual(breaches(package_files()), [])

    def test_python_gives_no_warning(self):
        with warnings.catch_warnings():
            warnings.simplefilter("error")
            for name, text in package_files().items():
                compile(text, name, "exec")

    def test_each_file_ends_with_one_newline(self):
        for name, text in package_files().items():
            self.assertTrue(text.endswith("\n") and not text.endswith("\n\n"), name)


BAD = [
    ("L2", "import os\n"),
    ("L2", "from os import path\n"),
    ("L2", "from .rows import Row\n"),
    ("L2", "from math import sqrt\n"),
    ("L2", "def f():\n    from math import gcd\n    return gcd\n"),
    ("L3", "X = 1\nprint(X)\n"),
    ("L3", "X = [[1]]\n"),
    ("L3", "X, Y = 1, 2\n"),
    ("L4", "def f(*xs):\n    return 1\n"),
    ("L4", "def d(f):\n    return f\n\n\n@d\ndef g():\n    return 1\n"),
    ("L5", "class A:\n    def __hash__(self):\n        return 1\n"),
    ("L5", "class A:\n    def __init__(self):\n        self.n = 1\n\n\nclass B:\n    @property\n    def n(self):\n"
           "        return 1\n"),
    ("L6", "def f():\n    global X\n    X = 1\n"),
    ("L6", "async def f():\n    return 1\n"),
    ("L6", "def f(a):\n    with a as (b, c):\n        return b\n"),
    ("L6", "def f(a):\n    with a[0]:\n        return a\n"),
    ("L6", "class A:\n    def __exit__(self, *told):\n        pass\n"),
    ("L6", "class A:\n    def __exit__(self, kind, value, trace):\n        self.low(kind)\n"),
    ("L6", "class A:\n    def __exit__(self, kind, value, trace):\n        self.why = value\n"),
    ("L6", "class A:\n    def __exit__(self, kind, value, trace):\n        self.rows = self.rows[1:]\n"),
    ("L6", "class A:\n    def __exit__(self, kind, value, trace):\n        if self.rows:\n            self.n = 1\n"),
    ("L6", "class A:\n    def __exit__(self, kind, value, trace):\n        self.undo(kind)\n"),
    ("L7", "def f():\n    return 1.5\n"),
    ("L7", "def f(a):\n    return a / 2\n"),
    ("L7", "def f(a):\n    return any(x for x in a)\n"),
    ("L8", "def f(a):\n    return hash(a)\n"),
    ("L8", "def f(a):\n    print(a)\n"),
    ("L10", "def f():\n" + "    x = 1\n" * 40),
    ("L10", "# " + "x" * 119 + "\n"),
    ("L10", "# x\n" * 400),
    ("L12", "def f(__a):\n    return 1\n"),
    ("L12", "def f(a):\n    _ = a\n    return _\n"),
    ("L14", "# \t\n"),
    ("L14", "# \u00e9\n"),
    ("L15", "X = 1\nX = 2\n"),
    ("L15", "def f(id):\n    return 1\n"),
    ("L15", "from math import gcd\n\n\ndef f(gcd):\n    return gcd\n"),
    ("L16", "from pressworlds.limits import NOTHING\n"),
    ("L17", "def f(register):\n    return register\n"),
    ("L17", "def f():\n    return 'an enum'\n"),
    ("L18", "class A:\n    pass\n\n\ndef f():\n    return [A]\n"),
    ("L19", "def f(a):\n    try:\n        return int(a)\n    except ValueError:\n        return 1\n"),
    ("L19", "def f(a):\n    raise a\n"),
    ("L20", "def f(a, b):\n    return a is b\n"),
    ("L21", "def f(a: int):\n    return a\n"),
    ("L22", "def f(a):\n    return [len]\n"),
    ("L22", "def f(a):\n    return int(a, base=2)\n"),
    ("L23", "def f(a):\n    b = zip(a, a)\n    return b\n"),
    ("L23", "def f(a):\n    for x in a:\n        a.append(x)\n"),
    ("L23", "def f(a):\n    for x in a:\n        a[x][1] = x\n"),
    ("L24", "def f(a):\n    return set(a)\n"),
    ("L25", "def f(a):\n    a.sort()\n"),
    ("L26", "class A:\n    def append(self, x):\n        return x\n"),
    ("L27", "def f(a):\n    return 2 ** a\n"),
    ("L27", "def f():\n    return '50%'\n"),
    ("L27", "def f():\n    return '\\x00'\n"),
    ("L28", "class A:\n    def __len__(self):\n        return self.n\n"),
    ("L28", "class A:\n    def __str__(self):\n        return self.n\n"),
]


class TestLooks(unittest.TestCase):
    def test_breaches_are_seen(self):
        for rule, text in BAD:
            with self.subTest(rule=rule, text=text[:60]):
                files = {"__init__.py": "", "limits.py": "MOST = 1\n", "bad.py": text}
                self.assertIn(rule, [complaint.split()[0] for complaint in breaches(files)])

    def test_circles_and_file_names_are_seen(self):
        files = {"__init__.py": "", "one.py": "from pressworlds.two import B\nA = 1\n",
                 "two.py": "from pressworlds.one import A\nB = 1\n"}
        self.assertEqual({complaint.split()[0] for complaint in breaches(files)}, {"L16"})
        for name in ("Rows.py", "test_rows.py", "len.py", "enum.py", "notes.txt"):
            self.assertEqual([complaint.split()[0] for complaint in breaches({"__init__.py": ""} | {
                name: ""})], ["L14"], name)
        self.assertEqual(breaches({"rows.py": ""}), ["L14 no __init__.py"])

    def test_nothing_is_said_of_what_is_allowed(self):
        text = '"""Doc."""\n\nfrom math import gcd\n\nMOST = 10 ** 30\nTABLE = {1: "a"}\n\n\ndef f(a, b=1):\n' \
               '    """Doc."""\n    return [gcd(x, b) for x in sorted(set(a)) if x is not None]\n'
        self.assertEqual(breaches({"__init__.py": "", "good.py": text}), [])


if __name__ == "__main__":
    unittest.main()
