"""The rules of LANGUAGE.md: the package breaks none, and the look at it would see it if it did."""

import ast
import pathlib
import unittest

import pointbook
from tests.rules import breaches

FOLDER = pathlib.Path(pointbook.__file__).parent
FAIR = '''"""A file within the rules."""

from other.first import Kept, made

MOST = -3
SIDES = ("all", "odd")
COUNTS = {"a": 1, "b": (1, 2)}


class Wrong(ValueError):
    """A refusal."""


class Row:
    def __init__(self, told):
        self.told = list(told)
        self.count = 0

    def add(self, number):
        self.told.append(number)
        self.count += 1


def sums(numbers, most=9):
    row = Row([n * 2 for n in numbers if n < most])
    for k, n in enumerate(row.told):
        row.count += n ** 2 // COUNTS["a"]
    if row.count is None or not numbers:
        raise Wrong("none")
    while row.count > most and "a" in COUNTS:
        row.count -= 1
    name = str(row.count)
    return sorted([n for n in range(row.count)], key=str, reverse=True) + made(f"{name} and {name!r}\\n")
'''
FIRST = '''class Kept:
    """Kept."""


def made(told):
    return [told]
'''
# For each rule: rows that break it, each put behind a fair file, at its end.
BROKEN = (
    ("L2", "import sys"), ("L2", "def f():\n    from other.first import made"), ("L2", "from os import path"),
    ("L2", "from .first import made"), ("L2", "from other.first import Kept"), ("L16", "from other.first import none"),
    ("L16", "from other import first"), ("L3", "X = 1 + 2"), ("L3", "X = [len]"), ("L3", "if MOST:\n    pass"),
    ("L3", "X = sums([1])"), ("L3", "for x in SIDES:\n    pass"), ("L3", "X = {MOST: 1}"),
    ("L4", "def f(*a):\n    pass"),
    ("L4", "def f(**a):\n    pass"), ("L4", "def f(*, a):\n    pass"), ("L4", "@made\ndef f():\n    pass"),
    ("L4", "def f(a=made(1)):\n    pass"), ("L5", "class A:\n    x = 1"), ("L5", "class A(Row, Kept):\n    pass"),
    ("L5", "class A(object):\n    pass"), ("L5", "class A(StopIteration):\n    pass"),
    ("L6", "def f(a):\n    with a:\n        pass"), ("L6", "def f(a):\n    assert a"),
    ("L6", "def f(a):\n    del a[0]"),
    ("L6", "def f(a):\n    global b\n    b = a"), ("L6", "def f(a):\n    b = c = a"), ("L6", "def f(a):\n    b, c = a"),
    ("L6", "def f(a):\n    for b in a:\n        pass\n    else:\n        pass"), ("L6", "def f(a):\n    a + 1"),
    ("L6", "def f(a):\n    match a:\n        case 1:\n            pass"), ("L7", "def f(a):\n    return a / 2"),
    ("L7", "def f(a):\n    return 1.5"), ("L7", "def f(a):\n    return b'a'"), ("L7", "def f(a):\n    yield a"),
    ("L7", "def f(a):\n    return (b for b in a)"), ("L7", "def f(a):\n    return {b: 1 for b in a}"),
    ("L7", "def f(a):\n    return [c for b in a for c in b]"), ("L7", "def f(a):\n    return [*a]"),
    ("L7", "def f(a):\n    return (b := a)"), ("L7", "def f(a):\n    return f'{a + 1}'"),
    ("L7", "def f(a):\n    return f'{a:3}'"), ("L7", "def f(a):\n    a /= 2"),
    ("L8", "def f(a):\n    return map(f, a)"),
    ("L8", "def f(a):\n    print(a)"), ("L8", "def f(a):\n    return bytes(a)"),
    ("L10", "def f():\n" + "    pass\n" * 40),
    ("L10", "# " + "a" * 119), ("L10", "# a\n" * 400), ("L12", "def f(_a):\n    pass"), ("L12", "def f(_):\n    pass"),
    ("L12", "def f(a):\n    return a._b"), ("L13", "def f(a):\n    return lambda b: b"), ("L14", "# \u00e4"),
    ("L15", "def f(list):\n    pass"), ("L15", "def f(a):\n    hash = a"), ("L15", "def f(Row):\n    pass"),
    ("L15", "def f(a):\n    made = a"), ("L15", "MOST = 2"), ("L15", "X = [[1]]"),
    ("L15", "def f(a):\n    COUNTS[a] = 1"),
    ("L15", "def f(a):\n    return COUNTS"), ("L15", "def f(a):\n    COUNTS.update(a)"),
    ("L15", "def f():\n    class A:\n        pass"), ("L17", "def f(a):\n    return vars(a)"),
    ("L17", "# the type of it"),
    ("L17", "def f(a):\n    return a.f_back"), ("L17", "# mydataclasses"), ("L18", "def f(a):\n    return [Row]"),
    ("L18", "def f(a):\n    Row.x = a"), ("L18", "class A:\n    def told(self):\n        pass"),
    ("L18", "def f(a):\n    a.b.c = 1"),
    ("L18", "class A:\n    def f(self):\n        pass\n\n    def f(self):\n        pass"),
    ("L19", "def f(a):\n    try:\n        f(a)\n    except Exception:\n        pass"),
    ("L19", "def f(a):\n    raise a"),
    ("L19", "def f(a):\n    raise"), ("L20", "def f(a):\n    return a is MOST"), ("L21", "def f(a: int):\n    pass"),
    ("L21", "def f(a):\n    b: int = a"), ("L22", "def f(a):\n    return [len, a]"), ("L22", "def f(a):\n    b = len"),
    ("L22", "def f(a):\n    return a.split(sep=' ')"), ("L22", "def f(a):\n    return int(a, base=2)"),
    ("L23", "def f(a):\n    return range(a)"), ("L23", "def f(a):\n    b = a.items()"),
    ("L23", "def f(a):\n    for b in a:\n        a.append(b)"),
    ("L23", "def f(a):\n    for k, b in enumerate(a.told):\n        a.told[k] = b"),
    ("L23", "def f(a):\n    for k, b in a.items():\n        a.pop(k)"), ("L24", "def f(a):\n    return set(a)"),
    ("L24", "def f(a):\n    return {a}"), ("L25", "def f(a):\n    a.sort()"), ("L25", "def f(a):\n    return a.append"),
    ("L25", "def f(a):\n    return a.casefold()"), ("L25", "def f(a):\n    return a.real"),
    ("L26", "class A:\n    def sort(self):\n        pass"), ("L26", "def f(a):\n    a.items = 1"),
    ("L26", "class A:\n    def encode(self):\n        pass"), ("L27", "def f(a):\n    return 2 ** a"),
    ("L27", "def f(a):\n    return 2 ** 65"), ("L27", "def f(a):\n    return '%'"),
    ("L27", "def f(a):\n    return chr(a)"),
    ("L27", "def f(a):\n    return '\\x41'"), ("L27", "X = " + "1" * 901),
    ("L28", "class A:\n    def __init__(self):\n        return None"),
    ("L28", "class A:\n    def __eq__(self, other):\n        return True"),
)


class Language(unittest.TestCase):
    def test_the_package_breaks_no_rule(self):
        files = {path.name: path.read_bytes().decode("utf-8") for path in sorted(FOLDER.glob("*.py"))}
        self.assertIn("directory.py", files)
        self.assertEqual(breaches("pointbook", files), [])

    def test_nothing_else_lies_in_its_folder(self):
        names = {path.name for path in FOLDER.iterdir() if not path.name.endswith(".py")}
        self.assertLessEqual(names, {"__pycache__"})
        self.assertTrue((FOLDER / "__init__.py").is_file())
        self.assertFalse((FOLDER / "__main__.py").exists())

    def test_a_fair_package_is_let_pass(self):
        self.assertEqual(breaches("other", {"__init__.py": "", "first.py": FIRST, "second.py": FAIR}), [])

    def test_what_breaks_a_rule_is_seen(self):
        for rule, rows in BROKEN:
            with self.subTest(rule=rule, rows=rows[:80]):
                ast.parse(rows)
                found = breaches("other", {"first.py": FIRST, "second.py": FAIR + "\n\n" + rows + "\n"})
                self.assertIn(rule, [breach[0] for breach in found])

    def test_files_of_wrong_names_are_seen(self):
        for rule, file in (("L1", "a-b.py"), ("L1", "A.py"), ("L1", "a.txt"), ("L1", "__main__.py"), ("L14", "len.py"),
                           ("L14", "tests.py"), ("L14", "test_a.py"), ("L14", "typing.py")):
            self.assertIn((rule, file, 0), breaches("other", {file: ""}))

    def test_files_that_draw_from_one_another_are_seen(self):
        ring = {"a.py": "from other.b import y\n\nX = 1\n", "b.py": "from other.c import z\n\nY = 1\n",
                "c.py": "from other.a import X\n\nZ = 1\n"}
        self.assertIn(("L16", "other", 0), breaches("other", ring))
        above = {"__init__.py": "from other.a import X\n", "a.py": "from other.b import Y\n\nX = 1\n",
                 "b.py": "Y = 1\n"}
        self.assertIn(("L16", "other", 0), breaches("other", above))
