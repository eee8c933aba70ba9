"""The form of the package's files (LANGUAGE.md, L1 to L28), and that the check of it sees what it must."""

import pathlib
import unittest

from tests.language import PACKAGE, faults

FOLDER = pathlib.Path(__file__).resolve().parent.parent / PACKAGE

GOOD = '''"""Words."""

LIMIT = -3
NAMES = {"a": 1, "b": (1, 2)}


class Refused(ValueError):
    """Words."""


class Row:
    def __init__(self, cells):
        self.cells = cells

    def longest(self, least=0):
        """Words."""
        return max([len(cell) for cell in self.cells if cell], default=least)


def first(cells, least):
    row = Row(list(cells))
    row.cells = sorted(row.cells, key=lambda cell: cell[0], reverse=True)
    for place, cell in enumerate(row.cells):
        if cell is None or place > LIMIT and cell not in NAMES:
            raise Refused(f"no {cell!r}")
    try:
        found = NAMES[least]
    except KeyError:
        found = 2 ** 3
    return found


HANDLERS = (first,)


def use(cells):
    handler = HANDLERS[0]
    return [handler(cells, text.strip()) for text in cells if isinstance(text, (str, int))]


def told(cells):
    for left, right in zip(cells, reversed(cells), strict=True):
        if not isinstance(left, Row) and left == right:
            return max(range(len(left)))
    return ", ".join([str(cell) for cell in cells])
'''

# For each rule, rows that it must not let through, each put into a function or at the top as it stands.
BAD = (
    ("L2", "import_inside", "def f():\n    from ductplan.sample import g\n    return g\n"),
    ("L2", "outside", "from math import floor\n"),
    ("L2", "leading dot", "from .sample import f\n"),
    ("L2", "star", "from ductplan.nowhere import *\n"),
    ("L3", "call at the top", "X = len('a')\n"),
    ("L3", "statement at the top", "if True:\n    X = 1\n"),
    ("L3", "something done", "X = 1\nlen('a')\n"),
    ("L4", "star parameter", "def f(*xs):\n    return xs\n"),
    ("L4", "double star", "def f(**xs):\n    return xs\n"),
    ("L4", "bare star", "def f(*, x):\n    return x\n"),
    ("L4", "decorator", "def g(x):\n    return x\n\n\n@g\ndef f():\n    return 1\n"),
    ("L4", "assigned from around",
     "def f():\n    x = 1\n\n    def g():\n        x = 2\n        return x\n    return g\n"),
    ("L5", "value in a class", "class A:\n    x = 1\n"),
    ("L5", "two bases", "class A(ValueError, KeyError):\n    pass\n"),
    ("L5", "other method", "class A:\n    def __iter__(self):\n        return self\n"),
    ("L6", "with", "def f(x):\n    with x:\n        pass\n"),
    ("L6", "del", "def f(x):\n    del x[0]\n"),
    ("L6", "assert", "def f(x):\n    assert x\n"),
    ("L6", "global", "def f():\n    global x\n    return 1\n"),
    ("L6", "match", "def f(x):\n    match x:\n        case 1:\n            pass\n"),
    ("L6", "else behind a loop", "def f(x):\n    for y in x:\n        pass\n    else:\n        pass\n"),
    ("L6", "two targets", "def f():\n    x = y = 1\n    return x + y\n"),
    ("L6", "unpacked", "def f(z):\n    x, y = z\n    return x + y\n"),
    ("L6", "finally", "def f(x):\n    try:\n        x()\n    finally:\n        x()\n"),
    ("L6", "expression by itself", "def f(x):\n    x\n"),
    ("L7", "float", "def f():\n    return 1.5\n"),
    ("L7", "division", "def f(x):\n    return x / 2\n"),
    ("L7", "bytes", "def f():\n    return b'a'\n"),
    ("L7", "generator", "def f(xs):\n    return sum(x for x in xs)\n"),
    ("L7", "walrus", "def f(x):\n    return (y := x)\n"),
    ("L7", "star", "def f(x):\n    return [*x]\n"),
    ("L7", "dict comprehension", "def f(xs):\n    return {x: 1 for x in xs}\n"),
    ("L7", "two fors", "def f(xs):\n    return [y for x in xs for y in x]\n"),
    ("L7", "f-string with more", "def f(x):\n    return f'{x + 1}'\n"),
    ("L8", "map", "def f(xs):\n    return map(f, xs)\n"),
    ("L8", "print", "def f(xs):\n    print(xs)\n"),
    ("L8", "pow", "def f(x):\n    return pow(x, 2)\n"),
    ("L10", "long line", "X = '" + "a" * 120 + "'\n"),
    ("L10", "tab", "def f():\n\treturn 1\n"),
    ("L10", "long function", "def f(x):\n" + "    x = x + 1\n" * 40 + "\n"),
    ("L10", "long file", "# a\n" * 401),
    ("L11", "calls itself", "def f(n):\n    return f(n - 1)\n"),
    ("L11", "calls itself by another", "def f(n):\n    return g(n)\n\n\ndef g(n):\n    return f(n)\n"),
    ("L11", "method that calls itself", "class A:\n    def go(self):\n        return self.go()\n"),
    ("L12", "underscore", "def f(_x):\n    return _x\n"),
    ("L12", "underscore by itself", "def f(xs):\n    return [1 for _ in xs]\n"),
    ("L13", "two lambdas", "def f():\n    return [lambda x: x, lambda x: x]\n"),
    ("L14", "other sign", "# \u00e9\n"),
    ("L15", "bound twice", "X = 1\nX = 2\n"),
    ("L15", "list within a list", "X = [[1]]\n"),
    ("L15", "table changed", "X = [1]\n\n\ndef f():\n    X.append(2)\n"),
    ("L15", "table stored into", "X = {1: 2}\n\n\ndef f():\n    X[1] = 3\n"),
    ("L15", "table handed on", "X = [1]\n\n\ndef f():\n    return X\n"),
    ("L15", "local like Python's own", "def f():\n    next = 1\n    return next\n"),
    ("L15", "parameter like Python's own", "def f(hash):\n    return hash\n"),
    ("L15", "inner class", "def f():\n    class A:\n        pass\n    return A()\n"),
    ("L16", "import without from", "import ductplan.sample\n"),
    ("L17", "word", "# the type of it\n"),
    ("L17", "name", "def f(x):\n    return x.mro\n"),
    ("L17", "getattr", "def f(x):\n    return getattr(x, 'y')\n"),
    ("L18", "class as a value", "class A:\n    pass\n\n\ndef f():\n    return A\n"),
    ("L18", "value of a class", "class A:\n    pass\n\n\ndef f():\n    A.x = 1\n"),
    ("L18", "method twice", "class A:\n    def f(self):\n        pass\n\n    def f(self):\n        pass\n"),
    ("L18", "method and value", "class A:\n    def go(self):\n        pass\n\n\ndef f(x):\n    x.go = 1\n"),
    ("L19", "except Exception", "def f(x):\n    try:\n        x()\n    except Exception:\n        pass\n"),
    ("L19", "bare except", "def f(x):\n    try:\n        x()\n    except:\n        pass\n"),
    ("L19", "raise of a name", "def f(x):\n    raise x\n"),
    ("L19", "raise from another", "def f(x):\n    raise ValueError('no') from x\n"),
    ("L20", "is", "def f(x, y):\n    return x is y\n"),
    ("L20", "is a number", "def f(x):\n    return x is 1\n"),
    ("L21", "annotation", "def f(x: int):\n    return x\n"),
    ("L21", "annotation given back", "def f(x) -> int:\n    return x\n"),
    ("L21", "annotation of a name", "def f():\n    x: int = 1\n    return x\n"),
    ("L22", "len as a value", "def f(x):\n    y = len\n    return y(x)\n"),
    ("L22", "keyword", "def f(x):\n    return int(x, base=2)\n"),
    ("L22", "reverse that isn't written", "def f(x, y):\n    return sorted(x, reverse=y)\n"),
    ("L22", "int beside isinstance", "def f(x):\n    return [isinstance(x, int), int]\n"),
    ("L23", "max of two", "def f(x):\n    return max(range(x), range(2))\n"),
    ("L23", "extended by", "def f(x):\n    x.extend(range(2))\n"),
    ("L23", "kept", "def f(x):\n    y = zip(x, x)\n    return list(y)\n"),
    ("L23", "items kept", "def f(x):\n    return x.items()\n"),
    ("L23", "changed while walked", "def f(xs):\n    for x in xs:\n        xs.append(x)\n"),
    ("L23", "changed through enumerate", "def f(xs):\n    for k, x in enumerate(xs):\n        xs[k] = x\n"),
    ("L24", "set", "def f(x):\n    return set(x)\n"),
    ("L24", "set written", "def f():\n    return {1, 2}\n"),
    ("L25", "sort", "def f(x):\n    x.sort()\n"),
    ("L25", "method handed on", "def f(x):\n    return x.append\n"),
    ("L26", "value", "class A:\n    def __init__(self):\n        self.items = 1\n"),
    ("L26", "method", "class A:\n    def sort(self):\n        return 1\n"),
    ("L27", "power", "def f(n):\n    return 2 ** n\n"),
    ("L27", "per cent", "X = '%d'\n"),
    ("L27", "escape", "X = '\\x41'\n"),
    ("L28", "given back", "class A:\n    def __init__(self):\n        return None\n"),
)


def package_texts():
    """Every file of the package, by its name; what Python itself puts there is passed over."""
    return {
        str(path.relative_to(FOLDER)): path.read_text(encoding="utf-8") if path.is_file() else ""
        for path in sorted(FOLDER.rglob("*")) if "__pycache__" not in path.parts}


class Package(unittest.TestCase):
    def test_every_rule_is_kept(self):
        texts = package_texts()
        self.assertIn("plan.py", texts)
        self.assertIn("__init__.py", texts)
        self.assertEqual(faults(texts), [])


class Check(unittest.TestCase):
    def test_good_code_passes(self):
        self.assertEqual(faults({"__init__.py": "", "sample.py": GOOD}), [])

    def test_bad_code_is_seen(self):
        for rule, name, text in BAD:
            with self.subTest(rule=rule, name=name):
                found = faults({"__init__.py": "", "sample.py": text})
                self.assertIn(rule, {line.split()[0] for line in found}, found)

    def test_bad_file_names_are_seen(self):
        for rule, name in (("L1", "notes.txt"), ("L1", "Plan.py"), ("L1", "__main__.py"), ("L1", "a-b.py"),
                           ("L14", "test.py"), ("L14", "test_a.py"), ("L14", "len.py"), ("L14", "enum.py")):
            with self.subTest(name):
                self.assertIn(rule, {line.split()[0] for line in faults({name: ""})})

    def test_files_that_draw_from_one_another_are_seen(self):
        found = faults({
            "one.py": "from ductplan.two import g\n\n\ndef f():\n    return g()\n",
            "two.py": "from ductplan.one import f\n\n\ndef g():\n    return 1\n\n\ndef h():\n    return f()\n"})
        self.assertEqual({line.split()[0] for line in found}, {"L16"})

    def test_a_name_from_a_file_that_does_not_define_it_is_seen(self):
        found = faults({
            "one.py": "X = 1\n", "two.py": "from ductplan.one import X\n\n\ndef g():\n    return X\n",
            "three.py": "from ductplan.two import X\n\n\ndef h():\n    return X\n"})
        self.assertEqual([line.split()[:2] for line in found], [["L16", "three.py:1:"]])


if __name__ == "__main__":
    unittest.main()
