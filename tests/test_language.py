"""The package's files keep to LANGUAGE.md; and the look-up in language.py finds what doesn't."""

import pathlib
import re
import unittest

from language import BY_FILE, faults

ROOT = pathlib.Path(__file__).resolve().parent.parent
SHARED = ROOT.parent / "shared" / "LANGUAGE.md"

INIT = {"turnedsum/__init__.py": '"""A package."""\n'}

GOOD = '''"""A module."""

FEW = (1, -2, (3, "a"))


def doubled(numbers, least=0):
    found = {}
    for number in sorted(numbers, reverse=True):
        if number > least and number not in found:
            found[number] = 2 * number
    return [found[number] for number in found if found[number] is not None]


class Box:
    def __init__(self, first):
        self.kept = [first]

    def filled(self, number):
        self.kept.append(number)
        return list(reversed(self.kept))
'''

# For each rule what breaks it, as a whole file of the package.
BAD = {
    "L2": ("import sys\n", "from os import path\n", "from .trains import a\n", "from turnedsum.trains import *\n",
           "def f():\n    from turnedsum.trains import a\n    return a\n", "from turnedsum.__main__ import a\n"),
    "L3": ("X = len((1, 2))\n", "if True:\n    X = 1\n", "X = 1\nX += 1\n", "for x in (1, 2):\n    pass\n",
           "X = Y = 1.5\n"),
    "L4": ("def f(*told):\n    pass\n", "def f(**told):\n    pass\n", "def f(a, *, b):\n    pass\n",
           "def f(a=len(())):\n    pass\n", "def g(h):\n    return h\n\n\n@g\ndef f():\n    pass\n"),
    "L5": ("class A:\n    x = 1\n", "class A:\n    def __add__(self, other):\n        return other\n",
           "class A:\n    pass\n", "class A(Exception, ValueError):\n    def f(self):\n        pass\n"),
    "L6": ("def f(a):\n    del a\n", "def f(a):\n    assert a\n", "def f(a):\n    with a:\n        pass\n",
           "def f(a):\n    for b in a:\n        pass\n    else:\n        pass\n", "def f(a):\n    b = c = a\n",
           "def f(a):\n    b, c = a\n", "def f():\n    try:\n        pass\n    finally:\n        pass\n",
           "def f(a):\n    a == 1\n", "X = 1\n\n\ndef f():\n    global X\n    X = 2\n",
           "def f(a):\n    match a:\n        case 1:\n            pass\n"),
    "L7": ("def f():\n    return 1.5\n", "def f(a):\n    return a / 2\n", "def f():\n    return b'a'\n",
           "def f(a):\n    return {b for b in a}\n", "def f(a):\n    return {b: 1 for b in a}\n",
           "def f(a):\n    return sum(b for b in a)\n", "def f(a):\n    return (b := a)\n",
           "def f(a):\n    return [c for b in a for c in b]\n", "def f(a):\n    return [*a]\n",
           "def f(a):\n    return f'{a:3}'\n", "def f(a):\n    a /= 2\n", "def f(a):\n    yield a\n"),
    "L8": ("def f(a):\n    return map(len, a)\n", "def f(a):\n    return hash(a)\n", "def len(a):\n    return a\n",
           "def f(sum):\n    return sum\n", "def f(a):\n    return a.__class__\n",
           "def f(a):\n    return a.format(1)\n"),
    "L9": ("def f(a):\n    print(a)\n", "def f():\n    return input()\n", "def f():\n    return open('a')\n"),
    "L10": ("X = 1" + " " * 120 + "\n", "# a\n" * 401, "def f():\n" + "    pass\n" * 40, "def f():\n\tpass\n"),
    "L11": ("def f(a):\n    return f(a)\n", "def f(a):\n    return g(a)\n\n\ndef g(a):\n    return f(a)\n"),
    "L12": ("def f(_a):\n    return 1\n", "def _f():\n    pass\n", "def f(a):\n    for _ in a:\n        pass\n",
            "class A:\n    def f(self):\n        self._a = 1\n"),
    "L13": ("def f():\n    a = {1, 2, 3}\n    return a\n", "def f(g):\n    return g(lambda a: a, lambda a: 1)\n"),
    "L14": ("# caf\u00e9\n",),
    "L15": ("A = 1\nA = 2\n", "A = [1]\n", "A = {1: 2}\n", "def f():\n    class A:\n        pass\n",
            "def f(next):\n    return next\n", "class A:\n    def f(self):\n        A = 1\n        return A\n",
            "def f():\n    id = 1\n    return id\n"),
    "L16": ("from turnedsum.other import a\n", "from turnedsum.trains import a\n\n\ndef b():\n    return a\n"),
    "L17": ("def f(a):\n    return a.open()\n", "# a type\n", "X = 'enum'\n", "# mydataclasses\n",
            "def f(a):\n    return getattr(a, 'b')\n", "def f(a):\n    return a.f_back\n",
            "def register():\n    pass\n"),
    "L18": ("class A:\n    def f(self):\n        return [A]\n", "class A:\n    def f(self):\n        A.x = 1\n",
            "class A:\n    def f(self):\n        pass\n\n    def f(self):\n        pass\n",
            "class A(StopIteration):\n    def f(self):\n        pass\n",
            "class A:\n    def f(self):\n        pass\n\n\nclass B:\n    def g(self):\n        self.f = 1\n"),
    "L19": ("def f(a):\n    try:\n        return a[0]\n    except Exception:\n        return 0\n",
            "def f(a):\n    raise a\n"),
    "L20": ("def f(a, b):\n    return a is b\n", "def f(a, b):\n    return a is not b\n"),
    "L21": ("def f(a: int):\n    return a\n", "def f() -> int:\n    return 1\n", "X: int = 1\n"),
    "L22": ("def f():\n    return len\n", "def f(a):\n    return int(a, base=2)\n", "def f(a):\n    return [sum]\n",
            "def f(a):\n    a.append(object=1)\n"),
    "L23": ("def f(a):\n    return range(a)\n", "def f(a):\n    b = zip(a, a)\n    return b\n",
            "def f(a):\n    b = a.items()\n    return b\n", "def f(a):\n    for b in a:\n        a.append(b)\n",
            "def f(a):\n    for b in enumerate(a):\n        a[0] = b\n",
            "def f(a):\n    for b in a.items():\n        a.pop(b)\n"),
    "L24": ("def f(a):\n    return set(a)\n", "def f(a):\n    return a in {1, 2}\n",
            "def f(a):\n    return frozenset(a)\n"),
    "L25": ("def f(a):\n    a.sort()\n", "def f(a):\n    return a.append\n", "def f(a):\n    return a.title()\n"),
    "L26": ("class A:\n    def sort(self):\n        pass\n", "class A:\n    def f(self):\n        self.items = 1\n",
            "class A:\n    def title(self):\n        pass\n"),
    "L27": ("def f(a):\n    return 2 ** a\n", "def f(a):\n    return a ** 65\n", "X = '100%'\n",
            "def f(a):\n    return chr(a)\n",
            "X = '\\x41'\n", "X = 1" + "0" * 900 + "\n"),
    "L28": ("class A:\n    def __len__(self):\n        return 1\n",
            "class A:\n    def __init__(self):\n        return None\n"),
}


def broken(texts):
    return {rule for rule, where in faults(texts)}


class ThePackage(unittest.TestCase):
    def test_keeps_to_every_rule(self):
        paths = [path for path in (ROOT / "turnedsum").rglob("*") if "__pycache__" not in path.parts]
        texts = {
            path.relative_to(ROOT).as_posix(): path.read_bytes().decode("utf-8") for path in paths if path.is_file()
        }
        self.assertIn("turnedsum/trains.py", texts)
        self.assertEqual(faults(texts), [])

    def test_the_rules_are_those_looked_up(self):
        rules = [f"L{number}" for number in range(1, 29)]
        self.assertEqual(set(BY_FILE) | {"L1", "L14", "L16"}, set(rules))
        if SHARED.exists():
            self.assertEqual(re.findall(r"^- \*\*(L\d+) ", SHARED.read_text(encoding="utf-8"), re.MULTILINE), rules)


class TheLookUp(unittest.TestCase):
    def test_good_files_are_let_through(self):
        self.assertEqual(faults(INIT | {"turnedsum/trains.py": GOOD}), [])
        drawing = "from turnedsum.trains import doubled\n\n\ndef twice(few):\n    return doubled(doubled(few))\n"
        self.assertEqual(faults(INIT | {"turnedsum/trains.py": GOOD, "turnedsum/more.py": drawing}), [])

    def test_what_breaks_a_rule_is_found(self):
        for rule, samples in BAD.items():
            for sample in samples:
                with self.subTest(rule=rule, sample=sample):
                    self.assertIn(rule, broken(INIT | {"turnedsum/trains.py": sample}))

    def test_every_rule_has_a_sample(self):
        self.assertEqual(set(BAD), set(BY_FILE) | {"L14", "L16"})

    def test_names_of_files(self):
        for rule, path in (
            ("L1", "turnedsum/notes.txt"), ("L1", "turnedsum/a-b.py"), ("L1", "turnedsum/_a.py"), ("L1", "other/a.py"),
            ("L14", "turnedsum/Trains.py"), ("L14", "turnedsum/test_trains.py"), ("L14", "turnedsum/sum.py"),
            ("L14", "turnedsum/enum.py"), ("L14", "turnedsum/site.py"), ("L14", "turnedsum/below/a.py"),
        ):
            with self.subTest(path=path):
                self.assertIn(rule, broken(INIT | {path: "X = 1\n"}))

    def test_files_that_draw_from_one_another(self):
        self.assertIn("L16", broken(INIT | {
            "turnedsum/one.py": "from turnedsum.two import b\n\n\ndef a():\n    return b\n",
            "turnedsum/two.py": "from turnedsum.one import a\n\n\ndef b():\n    return a\n",
        }))
        self.assertIn("L16", broken({"turnedsum/__init__.py": "one = 1\n", "turnedsum/one.py": "X = 1\n"}))


if __name__ == "__main__":
    unittest.main()
