import pathlib
import re
import unittest

from language_rules import faults, methods_of, package_faults

PACKAGE = pathlib.Path(__file__).resolve().parent.parent / "dotpress"

FAULTY = [
    ("L2", "import sys\n"),
    ("L2", "from .errors import PressError\n"),
    ("L2", "from dotpress.errors import *\n"),
    ("L2", "from math import gcd\n"),
    ("L3", "for k in range(3):\n    print(k)\n"),
    ("L4", "def f(*rest):\n    return rest\n"),
    ("L5", "class Kept:\n    many = 3\n"),
    ("L6", "def f(a):\n    assert a\n"),
    ("L6", "def f(a):\n    b = c = a\n    return b + c\n"),
    ("L6", "def f(a):\n    for b in a:\n        pass\n    else:\n        return 1\n"),
    ("L7", "def f(a):\n    return a / 2\n"),
    ("L7", "def f(a):\n    return sum(b for b in a)\n"),
    ("L7", "def f(a):\n    return [b for c in a for b in c]\n"),
    ("L7", "def f(a):\n    return 0.5 * a\n"),
    ("L7", "def f(a):\n    return f'{a[0]}'\n"),
    ("L7", "def f(a):\n    return f'{a:4}'\n"),
    ("L8", "def f(a):\n    return hash(a)\n"),
    ("L8", "def f(a):\n    return chr(a)\n"),
    ("L10", "def f(a):\n" + "    a = a + 1\n" * 40),
    ("L10", "# " + "a" * 120 + "\n"),
    ("L12", "def _f(a):\n    return a\n"),
    ("L14", "# \u00e9\n"),
    ("L15", "def f(a):\n    return a\n\n\ndef f(b):\n    return b\n"),
    ("L15", "def f(id):\n    return id\n"),
    ("L15", "from dotpress.errors import TooFew\n\n\ndef f(a):\n    TooFew = a\n    return TooFew\n"),
    ("L15", "class Kept:\n    pass\n\n\ndef f(Kept):\n    return Kept\n"),
    ("L17", "# the type of a\n"),
    ("L20", "def f(a, b):\n    return a is b\n"),
    ("L23", "def f(a):\n    b = zip(a, a)\n    return list(b)\n"),
    ("L23", "def f(a):\n    return [b for b in reversed(range(a))]\n"),
    ("L23", "def f(a):\n    return min(a.values(), default=0)\n"),
    ("L25", "def f(a):\n    a.sort()\n"),
    ("L27", "def f(a):\n    return 2 ** a\n"),
    ("L27", "def f(a):\n    return a + '%'\n"),
]

FAULTY_TOGETHER = [
    ("L16", {"one": "from dotpress.two import f\n", "two": "def g():\n    return 1\n"}),
    ("L16", {"one": "from dotpress.none import f\n"}),
    (
        "L16",
        {
            "one": "from dotpress.two import g\n\n\ndef f():\n    return g()\n",
            "two": "from dotpress.three import h\n\n\ndef g():\n    return h()\n",
            "three": "from dotpress.one import f\n\n\ndef h():\n    return f()\n",
        },
    ),
    (
        "L18",
        {
            "one": "class One:\n    def told(self):\n        return 1\n",
            "two": "class Two:\n    def __init__(self):\n        self.told = 1\n",
        },
    ),
]


class LanguageTest(unittest.TestCase):
    def texts_of_the_package(self):
        return {path.stem: path.read_text("utf-8") for path in PACKAGE.glob("*.py")}

    def test_the_package_breaks_no_rule(self):
        texts = self.texts_of_the_package()
        self.assertIn("__init__", texts)
        methods = set().union(*[methods_of(text) for text in texts.values()])
        for name, text in texts.items():
            with self.subTest(name=name):
                self.assertEqual(faults(text, methods), [])

    def test_the_modules_together_break_no_rule(self):
        self.assertEqual(package_faults(self.texts_of_the_package()), [])

    def test_nothing_but_plain_files_lies_in_the_package(self):
        for path in PACKAGE.iterdir():
            if path.name != "__pycache__":
                with self.subTest(name=path.name):
                    self.assertTrue(path.is_file())
                    self.assertTrue(re.fullmatch(r"__init__\.py|[a-z][a-z0-9_]*\.py", path.name))

    def test_each_rule_is_seen(self):
        for rule, text in FAULTY:
            with self.subTest(rule=rule, text=text):
                self.assertIn(rule, faults(text, set()))

    def test_each_rule_of_all_modules_is_seen(self):
        for rule, texts in FAULTY_TOGETHER:
            with self.subTest(rule=rule, texts=texts):
                self.assertEqual(package_faults(texts), [rule])

    def test_plain_code_breaks_no_rule(self):
        text = '"""Why."""\n\nMOST = 24\n\n\ndef f(a):\n    b = [c for c in a if c is not None]\n    return sorted(b)\n'
        self.assertEqual(faults(text, set()), [])


if __name__ == "__main__":
    unittest.main()
