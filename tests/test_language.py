import pathlib
import re
import unittest

from language_rules import faults, methods_of

PACKAGE = pathlib.Path(__file__).resolve().parent.parent / "dotpress"

FAULTY = [
    ("L2", "import sys\n"),
    ("L2", "from .errors import PressError\n"),
    ("L2", "from dotpress.errors import *\n"),
    ("L2", "from math import gcd\n"),
    ("L3", "for k in range(3):\n    print(k)\n"),
    ("L4", "def f(*rest):\n    return rest\n"),
    ("L5", "class Kept:\n    many = 3\n"),
    ("L6", "def f(a):\n    assert a\n"),
    ("L6", "def f(a):\n    b = c = a\n    return b + c\n"),
    ("L6", "def f(a):\n    for b in a:\n        pass\n    else:\n        return 1\n"),
    ("L7", "def f(a):\n    return a / 2\n"),
    ("L7", "def f(a):\n    return sum(b for b in a)\n"),
    ("L7", "def f(a):\n    return [b for c in a for b in c]\n"),
    ("L7", "def f(a):\n    return 0.5 * a\n"),
    ("L8", "def f(a):\n    return hash(a)\n"),
    ("L8", "def f(a):\n    return chr(a)\n"),
    ("L10", "def f(a):\n" + "    a = a + 1\n" * 40),
    ("L10", "# " + "a" * 120 + "\n"),
    ("L12", "def _f(a):\n    return a\n"),
    ("L14", "# \u00e9\n"),
    ("L15", "def f(a):\n    return a\n\n\ndef f(b):\n    return b\n"),
    ("L15", "def f(id):\n    return id\n"),
    ("L17", "# the type of a\n"),
    ("L20", "def f(a, b):\n    return a is b\n"),
    ("L23", "def f(a):\n    b = zip(a, a)\n    return list(b)\n"),
    ("L23", "def f(a):\n    return [b for b in reversed(range(a))]\n"),
    ("L23", "def f(a):\n    return min(a.values(), default=0)\n"),
    ("L25", "def f(a):\n    a.sort()\n"),
    ("L27", "def f(a):\n    return 2 ** a\n"),
    ("L27", "def f(a):\n    return a + '%'\n"),
]


class LanguageTest(unittest.TestCase):
    def test_the_package_breaks_no_rule(self):
        texts = {path.name: path.read_text("utf-8") for path in PACKAGE.glob("*.py")}
        self.assertIn("__init__.py", texts)
        methods = set().union(*[methods_of(text) for text in texts.values()])
        for name, text in texts.items():
            with self.subTest(name=name):
                self.assertEqual(faults(text, methods), [])

    def test_nothing_but_plain_files_lies_in_the_package(self):
        for path in PACKAGE.iterdir():
            if path.name != "__pycache__":
                with self.subTest(name=path.name):
                    self.assertTrue(path.is_file())
                    self.assertTrue(re.fullmatch(r"__init__\.py|[a-z][a-z0-9_]*\.py", path.name))

    def test_each_rule_is_seen(self):
        for rule, text in FAULTY:
            with self.subTest(rule=rule, text=text):
                self.assertIn(rule, faults(text, set()))

    def test_plain_code_breaks_no_rule(self):
        text = '"""Why."""\n\nMOST = 2 ** 24\n\n\ndef f(a):\n    b = [c for c in a if c is not None]\n    return sorted(b)\n'
        self.assertEqual(faults(text, set()), [])


if __name__ == "__main__":
    unittest.main()
