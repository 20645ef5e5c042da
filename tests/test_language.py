"""The package keeps to LANGUAGE.md, as far as that can be read off its files."""

import ast
import pathlib
import re
import unittest

from tests import language_rules

PACKAGE = pathlib.Path(__file__).resolve().parent.parent / "twicetold"

# One row of code outside the language for each, and the rule that it is to be sent back with.
SENT_BACK = [
    ("import os\n", "L6"),
    ("from os import path\n", "L2"),
    ("from .errors import Closed\n", "L2"),
    ("from twicetold.errors import *\n", "L2"),
    ("def f(x):\n    from twicetold.errors import Closed\n    return x\n", "L2"),
    ("if True:\n    x = 1\n", "L3"),
    ("x = 1\nx = 2\n", "L15"),
    ("def f(*xs):\n    return xs\n", "L4"),
    ("def f(x, *, y):\n    return x\n", "L4"),
    ("def g(f):\n    return f\n\n\n@g\ndef f(x):\n    return x\n", "L4"),
    ("class C:\n    x = 1\n", "L5"),
    ("def f(x):\n    y = z = x\n    return y\n", "L6"),
    ("def f(x):\n    assert x\n", "L6"),
    ("def f(x):\n    yield x\n", "L6"),
    ("def f(x):\n    for y in x:\n        pass\n    else:\n        return 1\n", "L6"),
    ("def f(x):\n    return x / 2\n", "L6/L7"),
    ("def f(x):\n    return x * 0.5\n", "L7"),
    ("def f(x):\n    return {y for y in x}\n", "L6/L7"),
    ("def f(x):\n    return [y for z in x for y in z]\n", "L7"),
    ("def f(x):\n    return hash(x)\n", "L8"),
    ("def f(x):\n    return print(x)\n", "L8"),
    ("def f(x):\n    return chr(x)\n", "L8"),
    ("x = 1" + " " * 120 + "\n", "L10"),
    ("def f(x):\n" + "    x = x + 1\n" * 40 + "    return x\n", "L10"),
    ("x = 1\n" * 401, "L10"),
    ("def f(_x):\n    return 1\n", "L12"),
    ("x = 1\t\n", "L14"),
    ("# \u00e9\nx = 1\n", "L14"),
    ("def f(hash):\n    return hash\n", "L15"),
    ("# of this type\nx = 1\n", "L17"),
    ("x = 'a dataclasses'\n", "L17"),
    ("def f(x):\n    return getattr(x, 'y')\n", "L8/L17"),
    ("def f(x):\n    try:\n        return x[0]\n    except Exception:\n        return 1\n", "L19"),
    ("def f(x):\n    try:\n        return x[0]\n    except:\n        return 1\n", "L19"),
    ("def f(x, y):\n    return x is y\n", "L20"),
    ("def f(x):\n    x.sort()\n    return x\n", "L25"),
    ("x = '%'\n", "L27"),
    ("from twicetold.errors import Closed\n\n\ndef f(Closed):\n    return Closed\n", "L15"),
    ("class C:\n    pass\n\n\ndef f(x):\n    C = x\n    return C\n", "L15"),
    ("def f(x: int):\n    return x\n", "L21"),
    ("def f(x) -> int:\n    return x\n", "L21"),
    ("def f(x):\n    return max(x, start=1)\n", "L22"),
    ("def f(x):\n    return x.split(sep='a')\n", "L22"),
    ("def f(x):\n    y = zip(x, x)\n    return list(y)\n", "L23"),
    ("def f(x):\n    return x.items()\n", "L23"),
    ("def f(x):\n    y = set(x)\n    return sorted(y)\n", "L24"),
    ("def f(x):\n    return [y for y in set(x)]\n", "L24"),
]

# Packages of two files outside the language, and the rule that they are to be sent back with.
PACKAGES_SENT_BACK = [
    ({"one": "from twicetold.two import f\n", "two": "x = 1\n"}, "L16"),
    ({"one": "from twicetold.two import f\n", "two": "from twicetold.three import f\n",
      "three": "def f(x):\n    return x\n"}, "L16"),
    ({"one": "from twicetold.two import f\n\nx = 1\n",
      "two": "from twicetold.one import x\n\n\ndef f(y):\n    return x\n"}, "L16"),
    ({"one": "class A:\n    def hour(self):\n        return 1\n",
      "two": "class B:\n    def __init__(self):\n        self.hour = 1\n"}, "L18"),
    ({"one": "class B:\n    def __init__(self):\n        self.items = 1\n"}, "L26"),
    ({"one": "class B:\n    def __init__(self):\n        self.args = 1\n"}, "L26"),
]


def package_files():
    return sorted(path for path in PACKAGE.rglob("*") if "__pycache__" not in path.parts and path.is_file())


class LanguageTest(unittest.TestCase):
    def test_the_package_holds_plain_python_files_alone(self):
        self.assertTrue((PACKAGE / "__init__.py").is_file())
        for path in package_files():
            with self.subTest(path=path):
                self.assertTrue(re.fullmatch(r"[a-z][a-z0-9_]*\.py|__init__\.py|__main__\.py", path.name))
                self.assertFalse(path.name.startswith("test"))

    def test_each_file_keeps_to_the_rules(self):
        sources = {path: path.read_bytes().decode("utf-8") for path in package_files()}
        methods = [name for source in sources.values() for name in language_rules.methods_of(ast.parse(source))]
        for path, source in sources.items():
            with self.subTest(path=path):
                self.assertEqual(language_rules.faults_of(source, methods), [])

    def test_the_files_keep_to_the_rules_together(self):
        sources = {path.stem: path.read_bytes().decode("utf-8") for path in package_files()}
        self.assertEqual(language_rules.package_faults(sources), [])
        self.assertEqual(language_rules.defined_names(sources["__init__"]), [])

    def test_packages_outside_the_rules_are_seen(self):
        for sources, rule in PACKAGES_SENT_BACK:
            with self.subTest(sources=sources):
                self.assertTrue(any(fault.startswith(rule) for fault in language_rules.package_faults(sources)))

    def test_code_outside_the_rules_is_seen(self):
        for source, rule in SENT_BACK:
            with self.subTest(source=source[:80]):
                self.assertTrue(any(fault.startswith(rule) for fault in language_rules.faults_of(source)))


if __name__ == "__main__":
    unittest.main()
