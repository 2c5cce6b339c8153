import os
import unittest

from language import PACKAGE, faults

TOP = os.path.dirname(os.path.dirname(os.path.abspath(__file__)))
FOLDER = os.path.join(TOP, PACKAGE)
MODULES = """__init__ errors ratios counts books parts houses turnings mixings pushes ways bounds built reaches
standards partings hidden trees changes turners texts desk""".split()

# What each rule rules out, so that the look at the package is known to see it.
WRONG = [
    ("L16", "import math\n"),
    ("L2", "from math import gcd\n"),
    ("L2", "from .errors import Wrong\n"),
    ("L2", "def f():\n    from othersum.errors import Wrong\n    return Wrong\n"),
    ("L3", "f(3)\n"),
    ("L3", "A = f(3)\n"),
    ("L4", "def f(*a):\n    return a\n"),
    ("L4", "def f(a, *, b):\n    return a\n"),
    ("L4", "@f\ndef g(a):\n    return a\n"),
    ("L5", "class A:\n    x = 1\n"),
    ("L5", "class A(ValueError, KeyError):\n    pass\n"),
    ("L6", "def f(a):\n    assert a\n"),
    ("L6", "def f(a):\n    b = c = a\n    return b\n"),
    ("L6", "def f(a):\n    for b in a:\n        pass\n    else:\n        pass\n"),
    ("L6", "def f(a):\n    try:\n        g(a)\n    finally:\n        g(a)\n"),
    ("L7", "def f(a):\n    return a / 2\n"),
    ("L7", "A = 1.5\n"),
    ("L7", "def f(a):\n    return {b: 1 for b in a}\n"),
    ("L7", "def f(a):\n    return [b for c in a for b in c]\n"),
    ("L7", "def f(a):\n    return sum(b for b in a)\n"),
    ("L7", "def f(a):\n    return f'{a + 1}'\n"),
    ("L8", "def f(a):\n    return map(f, a)\n"),
    ("L8", "def f(a):\n    print(a)\n"),
    ("L8", "def len(a):\n    return a\n"),
    ("L10", "# " + "x" * 119 + "\n"),
    ("L10", "# x\n" * 401),
    ("L10", "def f(a):\n" + "    a = a + 1\n" * 40),
    ("L12", "def _f(a):\n    return a\n"),
    ("L12", "def f(a):\n    for _ in a:\n        pass\n"),
    ("L14", "# caf\u00e9\n"),
    ("L14", "def f(a):\n\treturn a\n"),
    ("L15", "A = 1\nA = 2\n"),
    ("L15", "A = [[1], [2]]\n"),
    ("L15", "def f(max):\n    return max\n"),
    ("L15", "from othersum.errors import Wrong\n\n\ndef f(Wrong):\n    return Wrong\n"),
    ("L16", "from othersum.errors import Missing\n"),
    ("L16", "from othersum.sample import f\n\n\ndef f(a):\n    return a\n"),
    ("L17", "# of another type\n"),
    ("L17", "def f(a):\n    return getattr(a, 'b')\n"),
    ("L18", "class A(AttributeError):\n    pass\n"),
    ("L18", "class A:\n    def b(self):\n        self.b = 1\n"),
    ("L19", "def f(a):\n    try:\n        g(a)\n    except Exception:\n        pass\n"),
    ("L19", "def f(a):\n    try:\n        g(a)\n    except:\n        pass\n"),
    ("L19", "def f(a):\n    raise a\n"),
    ("L20", "def f(a):\n    return a is 0\n"),
    ("L20", "def f(a):\n    return a is not f\n"),
    ("L21", "def f(a) -> int:\n    return a\n"),
    ("L22", "def f(a):\n    g = len\n    return g(a)\n"),
    ("L22", "def f(a):\n    return int(a, base=3)\n"),
    ("L23", "def f(a):\n    b = range(a)\n    return b\n"),
    ("L23", "def f(a):\n    b = a.items()\n    return b\n"),
    ("L23", "def f(a):\n    for b in a:\n        a.append(b)\n"),
    ("L23", "def f(a):\n    for b, c in enumerate(a):\n        a[b] = c\n"),
    ("L23", "def f(a):\n    for b in a.items():\n        a.pop(b)\n        return b\n"),
    ("L15", "A = [1]\n\n\ndef f(a):\n    return A\n"),
    ("L15", "A = {1: 2}\n\n\ndef f(a):\n    a.append(A)\n"),
    ("L15", "A = [1]\n\n\ndef f(a):\n    A.append(a)\n"),
    ("L15", "A = [1]\n\n\ndef f(a):\n    A[0] = a\n"),
    ("L24", "def f(a):\n    b = set(a)\n    return b\n"),
    ("L25", "def f(a):\n    a.sort()\n"),
    ("L26", "class A:\n    def __init__(self):\n        self.items = 1\n"),
    ("L27", "def f(a):\n    return 2 ** a\n"),
    ("L27", "A = '%'\n"),
    ("L27", "A = '\\x41'\n"),
    ("L28", "class A:\n    def __init__(self):\n        return None\n"),
]

RIGHT = '''"""A sample."""

from othersum.errors import Wrong

LIMIT = 10 ** 12
PAIRS = [(1, 2), (-3, 4)]
BY_NAME = {"one": (1, None)}


class Shelf:
    def __init__(self, rows):
        self.rows = list(rows)

    def taken(self, key):
        try:
            return self.rows[key]
        except IndexError:
            raise Wrong("none there") from None


def walked(rows, least=0):
    found = []
    for place, row in enumerate(rows, start=1):
        if row is None or not isinstance(row, (int, str)):
            continue
        found.append(f"{place}: {row!r}\\n")
    kept = [row for row in found if len(row) > least]
    return sorted(kept, key=len, reverse=True)


def known(name):
    if name not in BY_NAME or len(PAIRS) == 0:
        return list(PAIRS)
    return [BY_NAME[name], BY_NAME.get(name), [pair for pair in PAIRS]]


def counted(rows):
    most = max([len(row) for row in rows], default=0)
    return (most, len(set(rows)), Shelf(rows).taken(0))
'''
ERRORS_FILE = "class Wrong(ValueError):\n    pass\n"


def faults_of(text):
    return faults({"errors.py": ERRORS_FILE, "sample.py": text})


def package_files():
    files = {}
    for name in os.listdir(FOLDER):
        if name != "__pycache__":
            with open(os.path.join(FOLDER, name), encoding="utf-8", newline="") as file:
                files[name] = file.read()
    return files


class TheLook(unittest.TestCase):
    def test_what_is_ruled_out_is_seen(self):
        for rule, text in WRONG:
            with self.subTest(rule=rule, text=text[:80]):
                rules = [line.split(" ")[0] for line in faults_of(text)]
                self.assertIn(rule, rules)

    def test_what_is_allowed_is_let_through(self):
        self.assertEqual(faults_of(RIGHT), [])
        self.assertEqual(faults_of("def f(a):\n" + "    a = a + 1\n" * 39), [])
        self.assertEqual(faults_of("# x\n" * 400), [])
        self.assertEqual(faults_of("# " + "x" * 118 + "\n"), [])

    def test_wrong_file_names_are_seen(self):
        for name in ("Sample.py", "sample.txt", "len.py", "test_sample.py", "tests.py", "site.py"):
            with self.subTest(name=name):
                self.assertNotEqual(faults({name: "A = 1\n"}), [])

    def test_files_that_draw_from_one_another_are_seen(self):
        one = "from othersum.other import B\n\nA = 1\n"
        other = "from othersum.one import A\n\nB = 1\n"
        rules = [line.split(" ")[0] for line in faults({"one.py": one, "other.py": other})]
        self.assertEqual(rules, ["L16", "L16"])


class ThePackage(unittest.TestCase):
    def test_it_keeps_to_the_language(self):
        self.assertEqual(faults(package_files()), [])

    def test_its_modules_are_there(self):
        names = package_files()
        for module in MODULES:
            self.assertIn(module + ".py", names)


if __name__ == "__main__":
    unittest.main()
