import pathlib
import unittest

import form

PACKAGE = pathlib.Path(__file__).resolve().parent.parent / "hillcut"

# Each is a whole file that the rule ahead of it forbids.
FORBIDDEN = (
    ("L2", "import time\n"),
    ("L2", "from random import randint\n"),
    ("L2", "from os.path import exists\n"),
    ("L2", "from .points import turned\n"),
    ("L2", "from hillcut.points import *\n"),
    ("L2", "def f():\n    from hillcut.points import turned\n    return turned\n"),
    ("L3", "print()\n"),
    ("L3", "for place in range(3):\n    pass\n"),
    ("L4", "def f(*rest):\n    return rest\n"),
    ("L4", "def f(a, *, b):\n    return b\n"),
    ("L5", "class Spot:\n    far = 3\n"),
    ("L5", "class Spot(ValueError, KeyError):\n    pass\n"),
    ("L6", "def f(a):\n    assert a\n"),
    ("L6", "def f(a):\n    b = c = a\n    return b + c\n"),
    ("L6", "def f(a):\n    while a:\n        a = a - 1\n    else:\n        pass\n"),
    ("L7", "def f(a):\n    return a / 2\n"),
    ("L7", "def f(a):\n    return a * 2.0\n"),
    ("L7", "def f(a):\n    return b'x'\n"),
    ("L7", "def f(a):\n    return any(b for b in a)\n"),
    ("L7", "def f(a):\n    return max(*a)\n"),
    ("L7", "def f(a):\n    return [b for c in a for b in c]\n"),
    ("L8", "def f(a):\n    return open(a)\n"),
    ("L8", "def f(a):\n    return pow(a, 2)\n"),
    ("L10", "def f(a):\n" + "    a = a + 1\n" * 40),
    ("L10", "# " + "x" * 119 + "\n"),
    ("L10", "\n" * 401),
    ("L12", "def f(_a):\n    return _a\n"),
    ("L14", "# \u00e4\n"),
    ("L14", "def f(a):\n\treturn a\n"),
    ("L15", "def f(map):\n    return map\n"),
    ("L15", "def f(a):\n    sum = a\n    return sum\n"),
    ("L15", "from hillcut.points import turned\n\n\ndef f(turned):\n    return turned\n"),
    ("L15", "class Spot:\n    pass\n\n\ndef f(a):\n    Spot = a\n    return Spot\n"),
    ("L15", "MOST = 1\nMOST = 2\n"),
    ("L17", "# a type of points\n"),
    ("L20", "def f(a, b):\n    return a is b\n"),
    ("L23", "def f(a):\n    b = reversed(a)\n    return list(b)\n"),
    ("L23", "def f(a):\n    return range(a)\n"),
    ("L24", "def f(a):\n    b = set(a)\n    return len(b)\n"),
    ("L24", "def f(a):\n    return [b for b in set(a)]\n"),
    ("L24", "def f(a, b):\n    return sorted(set(a), key=b)\n"),
    ("L25", "def f(a):\n    a.sort()\n"),
    ("L27", "def f(a):\n    return 2 ** a\n"),
    ("L27", "WORDS = '50 %'\n"),
)

ALLOWED = (
    '"""Words."""\n\nfrom hillcut.points import apart\n\nMOST = 210\n\n\ndef f(a):\n    return apart(a, a) is None\n',
    "def f(a):\n    return [b for b in sorted(set(a) - set(a[1:]))]\n",
    "def f(a, b):\n    return a in set(b) or set(a) == set(b)\n",
    "def f(a):\n    return list(reversed(a)) + [b for b in range(len(a))]\n",
    "def f(a):\n    for b in zip(range(3), a):\n        return b\n",
)


def package_files():
    return sorted(path for path in PACKAGE.iterdir() if path.name != "__pycache__")


def module_name(path):
    return "hillcut" if path.stem == "__init__" else f"hillcut.{path.stem}"


class Form(unittest.TestCase):
    def test_the_package_keeps_to_its_part_of_python(self):
        texts = {path: path.read_text(encoding="utf-8") for path in package_files()}
        own_methods = tuple(name for text in texts.values() for name in form.methods_of(text))
        for path, text in texts.items():
            with self.subTest(file=path.name):
                self.assertEqual(form.file_name_faults(path.name), [])
                self.assertEqual(form.file_faults(text, own_methods), [])
        by_module = {module_name(path): text for path, text in texts.items()}
        self.assertEqual(form.package_faults(by_module), [])

    def test_the_files_of_the_interface_are_there(self):
        names = [path.name for path in package_files()]
        for module in ("__init__", "errors", "points", "near", "rings", "hills", "cutting", "grid"):
            self.assertIn(f"{module}.py", names)

    def test_what_is_forbidden_is_seen(self):
        for rule, text in FORBIDDEN:
            with self.subTest(rule=rule, text=text):
                faults = form.file_faults(text)
                self.assertTrue(any(rule in fault.split() for fault in faults), faults)

    def test_what_is_allowed_is_let_through(self):
        for text in ALLOWED:
            with self.subTest(text=text):
                self.assertEqual(form.file_faults(text), [])

    def test_file_names(self):
        self.assertEqual(form.file_name_faults("points.py"), [])
        for name in ("Points.py", "points.txt", "test_points.py", "sum.py", "_points.py"):
            self.assertNotEqual(form.file_name_faults(name), [], name)

    def test_files_that_draw_from_one_another_are_seen(self):
        one = "from hillcut.two import b\n\n\ndef a():\n    return b()\n"
        two = "from hillcut.one import a\n\n\ndef b():\n    return a()\n"
        self.assertNotEqual(form.package_faults({"hillcut": "", "hillcut.one": one, "hillcut.two": two}), [])
        above = "from hillcut.one import a\n"
        plain = "def b():\n    return 1\n"
        self.assertNotEqual(form.package_faults({"hillcut": above, "hillcut.one": one, "hillcut.two": plain}), [])
        self.assertEqual(form.package_faults({"hillcut": "", "hillcut.one": one, "hillcut.two": plain}), [])

    def test_a_name_is_drawn_from_the_file_that_defines_it(self):
        one = "from hillcut.two import c\n"
        two = "from hillcut.three import c\n"
        texts = {"hillcut": "", "hillcut.one": one, "hillcut.two": two, "hillcut.three": "def c():\n    return 1\n"}
        self.assertEqual(form.package_faults(texts), ["L16 hillcut.one: c"])


if __name__ == "__main__":
    unittest.main()
