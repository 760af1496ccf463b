"""The package keeps to LANGUAGE.md, and the checks of that see what breaks a rule."""

import ast
import pathlib
import unittest

import weightstogether
from language_rules import RULES, faults

FOLDER = pathlib.Path(weightstogether.__file__).parent

# A file that keeps every rule, with most of what is allowed.
GOOD = '''"""Some words."""

LIMIT = -22
PAIRS = ((1, "a"), (2, "b"))


def double(xs, most=3):
    # Why.
    ys = []
    for place, x in enumerate(xs):
        if x is None or place > most:
            continue
        ys.append(x * 2 ** 3 // 2)
    while len(ys) > LIMIT and ys:
        ys.pop()
        break
    ys = sorted(ys, reverse=True)
    zs = [y for y in ys if y % 2 == 0]
    d = {"a": 1}
    d["b"] = sum([1, 2]) if not zs else max(zs, default=0)
    for key in list(d):
        d[key] += 1 << 2
    return ys[1:] + [min(range(3))] + sorted(d.values())


def again(xs):
    return double(xs, most=2)
'''

BROKEN = {
    "L1": [("notes.txt", "words\n"), ("a-b.py", ""), ("a b.py", "")],
    "L2": [("a.py", "import math\n"), ("a.py", "from .sets import together\n")],
    "L3": [("a.py", "x = 1 + 1\n"), ("a.py", "for x in (1, 2):\n    pass\n"), ("a.py", "x = len('a')\n"),
           ("a.py", "if True:\n    x = 1\n")],
    "L4": [("a.py", "def f(*xs):\n    return xs\n"), ("a.py", "def f(**xs):\n    return xs\n"),
           ("a.py", "def f(*, x):\n    return x\n"), ("a.py", "def f(x, /):\n    return x\n"),
           ("a.py", "def f(x=len('a')):\n    return x\n"), ("a.py", "@g\ndef f():\n    return 1\n"),
           ("a.py", "def f():\n    def g():\n        return 1\n    return g()\n")],
    "L5": [("a.py", "class A:\n    pass\n")],
    "L6": [("a.py", "def f(x):\n    assert x\n"), ("a.py", "def f(x):\n    del x\n"),
           ("a.py", "def f(x):\n    global y\n"), ("a.py", "def f(x):\n    y = z = x\n"),
           ("a.py", "def f(x):\n    for y in x:\n        pass\n    else:\n        pass\n"),
           ("a.py", "def f(x):\n    with x:\n        pass\n"), ("a.py", "def f(x):\n    x\n"),
           ("a.py", "def f(x):\n    match x:\n        case 1:\n            pass\n")],
    "L7": [("a.py", "def f(x):\n    return x / 2\n"), ("a.py", "def f(x):\n    return 1.5\n"),
           ("a.py", "def f(x):\n    x /= 2\n"), ("a.py", "def f(x):\n    return b'a'\n"),
           ("a.py", "def f(x):\n    return all(y for y in x)\n"), ("a.py", "def f(x):\n    return [*x]\n"),
           ("a.py", "def f(x):\n    return (y := x)\n"), ("a.py", "def f(x):\n    return {y: 1 for y in x}\n"),
           ("a.py", "def f(x):\n    return [z for y in x for z in y]\n"), ("a.py", "def f(x):\n    return {**x}\n")],
    "L8": [("a.py", "def f(x):\n    return pow(x, 2)\n"), ("a.py", "def f(x):\n    return unknown\n"),
           ("a.py", "def len(x):\n    return 1\n"), ("a.py", "def f(x):\n    return x.__class__\n"),
           ("a.py", "def f(x):\n    return x.format(1)\n")],
    "L9": [("a.py", "def f(x):\n    print(x)\n"), ("__main__.py", ""), ("a.py", "def f(x):\n    return open(x)\n")],
    "L10": [("a.py", "# " + "a" * 119 + "\n"), ("a.py", "# a\n" * 401), ("a.py", "def f():\n\treturn 1\n"),
            ("a.py", "def f(x):\n" + "    x = 1\n" * 40)],
    "L11": [("a.py", "def f(x):\n    return f(x - 1)\n"), ("a.py", "def f(x):\n    return g(x)\n\n\n"
             "def g(x):\n    return f(x)\n"), ("a.py", "def f(x):\n    return [y for y in set(x)]\n")],
    "L12": [("a.py", "def f(_x):\n    return 1\n"), ("a.py", "def f(x):\n    for _ in x:\n        pass\n")],
    "L13": [("a.py", "def f(x):\n    y = {1, 2, 3}\n"), ("a.py", "def f(x):\n    return [lambda: 1, lambda: 2]\n")],
    "L14": [("A.py", ""), ("tests.py", ""), ("test_a.py", ""), ("filter.py", ""), ("a.py", "# \u00e9\n"),
            ("site/a.py", ""), ("enum.py", ""), ("a.py", "x = 1\r\n")],
    "L15": [("a.py", "x = 1\nx = 2\n"), ("a.py", "x = [1]\n"), ("a.py", "x = ({}, 1)\n"),
            ("a.py", "def f(next):\n    return 1\n"), ("a.py", "def f():\n    hash = 1\n    return hash\n")],
    "L16": [("__init__.py", "sets = 1\n"), ("a.py", "import weightstogether.sets\n")],
    "L17": [("a.py", "# its type\n"), ("a.py", "def f(x):\n    return x.elements\n"), ("a.py", "# my_dataclasses\n"),
            ("a.py", "def f(x):\n    return eval(x)\n"), ("a.py", "def f(x):\n    return x.f_back\n")],
    "L18": [("a.py", "class A:\n    pass\n")],
    "L19": [("a.py", "def f(x):\n    raise x\n"), ("a.py", "def f(x):\n    try:\n        pass\n"
             "    except KeyError:\n        pass\n"), ("a.py", "def f(x):\n    return ValueError(x)\n")],
    "L20": [("a.py", "def f(x):\n    return x is 1\n"), ("a.py", "def f(x, y):\n    return x is not y\n")],
    "L21": [("a.py", "def f(x: int):\n    return x\n"), ("a.py", "def f(x) -> int:\n    return x\n"),
            ("a.py", "x: int = 1\n")],
    "L22": [("a.py", "def f(x):\n    y = len\n"), ("a.py", "def f(x):\n    return sorted(x, key=repr)\n"),
            ("a.py", "def f(x):\n    return int(x, base=2)\n"), ("a.py", "def f(x):\n    return sorted(x, reverse=x)\n"),
            ("a.py", "def f(x):\n    return x.split(sep='a')\n")],
    "L23": [("a.py", "def f(x):\n    y = range(x)\n"), ("a.py", "def f(x):\n    return x.items()\n"),
            ("a.py", "def f(x):\n    return 1 in range(x)\n"), ("a.py", "def f(x):\n    return min(range(x), 2)\n"),
            ("a.py", "def f(x):\n    for y in x:\n        x.append(y)\n"),
            ("a.py", "def f(x):\n    for y, z in enumerate(x):\n        x[y] = z\n"),
            ("a.py", "def f(x):\n    for y in x.keys():\n        x.pop(y)\n")],
    "L24": [("a.py", "def f(x):\n    y = set(x)\n"), ("a.py", "def f(x):\n    return {1}\n")],
    "L25": [("a.py", "def f(x):\n    x.sort()\n"), ("a.py", "def f(x):\n    y = x.append\n")],
    "L26": [("a.py", "def f(x):\n    x.args = 1\n")],
    "L27": [("a.py", "def f(n):\n    return 2 ** n\n"), ("a.py", "def f(n):\n    return 2 ** 65\n"),
            ("a.py", "x = 'a%'\n"), ("a.py", "def f(n):\n    return chr(n)\n"), ("a.py", "x = '\\x41'\n"),
            ("a.py", "x = r'a'\n"), ("a.py", "x = " + "1" * 901 + "\n"), ("a.py", "def f(n):\n    return f'{n}'\n")],
    "L28": [("a.py", "def __len__(x):\n    return 1\n")],
}


class PackageTest(unittest.TestCase):
    def paths(self):
        return [path for path in sorted(FOLDER.rglob("*")) if path.is_file() and path.parent.name != "__pycache__"]

    def test_every_file_keeps_every_rule(self):
        for path in self.paths():
            name = path.relative_to(FOLDER).as_posix()
            with self.subTest(path=name):
                self.assertEqual(faults(name, path.read_bytes()), [])

    def test_the_files_that_must_be_there_are(self):
        names = [path.relative_to(FOLDER).as_posix() for path in self.paths()]
        self.assertIn("sets.py", names)
        for path in self.paths():
            self.assertTrue((path.parent / "__init__.py").is_file(), path)

    def test_the_calls_are_plain_functions_of_the_interface(self):
        tree = ast.parse((FOLDER / "sets.py").read_text())
        arguments = {node.name: [x.arg for x in node.args.args] for node in tree.body
                     if isinstance(node, ast.FunctionDef)}
        self.assertEqual(arguments["together"], ["n", "m"])
        self.assertEqual(arguments["increasing"], ["n", "f"])
        self.assertEqual(arguments["mean"], ["n", "m", "f"])
        self.assertEqual(arguments["goes"], ["n", "m", "f", "g"])
        self.assertEqual(arguments["over"], ["n", "m", "k"])
        self.assertEqual(arguments["total"], ["n", "m", "x"])
        self.assertEqual(arguments["product"], ["p"])
        self.assertEqual(arguments["given_of"], ["n", "i", "v", "m"])
        self.assertEqual(arguments["forgot"], ["n", "i", "m"])


class RulesTest(unittest.TestCase):
    def test_what_keeps_the_rules_is_let_through(self):
        self.assertEqual(faults("a.py", GOOD.encode()), [])
        self.assertEqual(faults("__init__.py", b'"""Words."""\n'), [])

    def test_every_rule_has_a_check_and_samples(self):
        rules = [f"L{number}" for number in range(1, 29)]
        self.assertEqual(list(RULES), rules)
        self.assertEqual(list(BROKEN), rules)

    def test_what_breaks_a_rule_is_seen(self):
        for rule, samples in BROKEN.items():
            for path, text in samples:
                with self.subTest(rule=rule, path=path, text=text[:80]):
                    self.assertIn(rule, [found for found, line in faults(path, text.encode())])

    def test_other_bytes_than_utf8_are_seen(self):
        self.assertIn("L1", [found for found, line in faults("a.py", b"# \xff\n")])

    def test_the_line_is_told(self):
        self.assertIn(("L7", 3), faults("a.py", b"def f(x):\n    y = 1\n    return x / y\n"))


if __name__ == "__main__":
    unittest.main()
