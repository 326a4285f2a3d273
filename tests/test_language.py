import os
import unittest

from language_rules import file_faults, faults_of, package_faults, text_faults

FOLDER = os.path.join(os.path.dirname(os.path.dirname(os.path.abspath(__file__))), "discimages")


def package_files():
    """What lies in the package; a folder that Python itself makes there aside."""
    return sorted(name for name in os.listdir(FOLDER) if name != "__pycache__")


def read(name):
    with open(os.path.join(FOLDER, name), encoding="utf-8", newline="") as stream:
        return stream.read()


class ThePackage(unittest.TestCase):
    def test_its_files_have_plain_names(self):
        for name in package_files():
            self.assertEqual(file_faults(name), [], name)

    def test_each_file_keeps_the_rules(self):
        for name in package_files():
            with self.subTest(name=name):
                self.assertEqual(faults_of(read(name)), [])

    def test_as_a_whole(self):
        self.assertEqual(package_faults({name: read(name) for name in package_files()}), [])

    def test_what_the_interface_names_is_there(self):
        self.assertIn("discs.py", package_files())
        for row in ("def look(image):\n", "def list_all(most, image):\n", "def file(start, most, image, path):\n"):
            self.assertIn(row, read("discs.py"))

    def test_init_is_its_docstring_alone(self):
        self.assertEqual(read("__init__.py").count("\n"), 1)


WRONG = [
    ("L2", "import os\n"),
    ("L2", "from os import path\n"),
    ("L2", "from discimages.discs import *\n"),
    ("L2", "from .discs import look\n"),
    ("L2", "def f():\n    from discimages.discs import look\n    return look\n"),
    ("L3", "x = len(\"a\")\n"),
    ("L3", "for k in (1, 2):\n    pass\n"),
    ("L4", "def f(*values):\n    return values\n"),
    ("L4", "def f(**values):\n    return values\n"),
    ("L4", "def f(a, *, b):\n    return a\n"),
    ("L4", "def f(a=[]):\n    return a\n"),
    ("L5", "class C:\n    x = 1\n"),
    ("L5", "class C:\n    def __add__(self, other):\n        return 1\n"),
    ("L6", "def f():\n    a = b = 1\n    return a\n"),
    ("L6", "def f(p):\n    a, b = p\n    return a\n"),
    ("L6", "def f():\n    assert True\n"),
    ("L6", "def f(x):\n    with x:\n        pass\n"),
    ("L6", "def f(x):\n    while x:\n        pass\n    else:\n        pass\n"),
    ("L6", "def f(x):\n    try:\n        x()\n    finally:\n        pass\n"),
    ("L6", "def f(x):\n    \"words\"\n    return x\n"),
    ("L6", "def f(x):\n    del x[0]\n"),
    ("L6", "def f():\n    global x\n"),
    ("L7", "x = 1.5\n"),
    ("L7", "x = b\"a\"\n"),
    ("L7", "def f(a):\n    return a / 2\n"),
    ("L7", "def f(a):\n    return {x for x in a}\n"),
    ("L7", "def f(a):\n    return any(x for x in a)\n"),
    ("L7", "def f(a):\n    return [x for y in a for x in y]\n"),
    ("L7", "def f(a):\n    return [*a]\n"),
    ("L7", "def f(a):\n    if (b := a):\n        return b\n"),
    ("L8", "def f(a):\n    return hash(a)\n"),
    ("L8", "def f(a):\n    return bytearray(a)\n"),
    ("L10", "def f(a):\n" + "    a = a + 1\n" * 40),
    ("L12", "def f(a_, _b):\n    return a_\n"),
    ("L12", "_x = 1\n"),
    ("L14", "# \u00e4\n"),
    ("L14", "x = 1\t\n"),
    ("L14", "x = 1\r\n"),
    ("L15", "x = 1\nx = 2\n"),
    ("L15", "x = [[1], 2]\n"),
    ("L15", "def f(hash):\n    return hash\n"),
    ("L15", "class Thing:\n    pass\n\n\ndef f():\n    Thing = 1\n    return Thing\n"),
    ("L15", "from discimages.fields import SECTOR\n\n\ndef f(SECTOR):\n    return SECTOR\n"),
    ("L17", "def f(a):\n    return getattr(a, \"x\")\n"),
    ("L17", "# a " + "ty" + "pe\n"),
    ("L17", "x = \"data" + "classes\"\n"),
    ("L17", "def f(a):\n    return chr(a)\n"),
    ("L17", "def f(a):\n    print(a)\n"),
    ("L18", "class C:\n    def a(self):\n        return 1\n\n    def a(self):\n        return 2\n"),
    ("L19", "def f(a):\n    try:\n        return a()\n    except Exception:\n        return 1\n"),
    ("L19", "def f(a):\n    raise a\n"),
    ("L20", "def f(a, b):\n    return a is b\n"),
    ("L21", "def f(a: int):\n    return a\n"),
    ("L21", "def f(a) -> int:\n    return a\n"),
    ("L22", "def f(a):\n    b = len\n    return b(a)\n"),
    ("L22", "def f(a):\n    return list(object=a)\n"),
    ("L23", "def f(a):\n    b = range(a)\n    return b\n"),
    ("L23", "def f(a):\n    return a.items()\n"),
    ("L24", "def f(a):\n    b = set(a)\n    return b\n"),
    ("L25", "def f(a):\n    return a.sort()\n"),
    ("L25", "def f(a):\n    return a.isidentifier()\n"),
    ("L26", "class C:\n    def __init__(self):\n        self.items = 1\n"),
    ("L27", "def f(n):\n    return 2 ** n\n"),
    ("L27", "x = \"100 %\"\n"),
    ("L27", "x = \"\\x41\"\n"),
]


class TheRules(unittest.TestCase):
    """Each rule that is looked for is found broken where it is."""

    def test_wrong_code(self):
        for rule, text in WRONG:
            with self.subTest(rule=rule, text=text):
                self.assertIn(rule, [found for found, line in faults_of(text)])

    def test_right_code(self):
        text = "\"\"\"Words.\"\"\"\n\nMOST = 3\n\n\ndef f(a, b):\n    # why\n    return [k for k in a if k < b]\n"
        self.assertEqual(faults_of(text), [])

    def test_sizes(self):
        self.assertEqual(text_faults("x = 1\n" * 400), [])
        self.assertEqual(text_faults("x = 1\n" * 401), [("L10", 401)])
        self.assertEqual(text_faults("x" * 120 + "\n"), [])
        self.assertEqual(text_faults("x" * 121 + "\n"), [("L10", 1)])

    def test_names_of_files(self):
        for name in ("data.txt", "Discs.py", "a-b.py", "len.py", "tests.py", "test_a.py", "site.py", "folder"):
            self.assertNotEqual(file_faults(name), [], name)
        for name in ("discs.py", "__init__.py", "a1_b.py"):
            self.assertEqual(file_faults(name), [], name)

    def test_a_circle_of_imports(self):
        first = "from discimages.b import g\n\n\ndef f():\n    return g\n"
        second = "from discimages.a import f\n\n\ndef g():\n    return f\n"
        self.assertEqual(package_faults({"__init__.py": "", "a.py": first, "b.py": second}), [("L16", "a.py"), ("L16", "b.py")])

    def test_a_name_from_another_file_than_its_own(self):
        first = "from discimages.b import g\n"
        second = "from discimages.c import g\n"
        third = "def g():\n    return 1\n"
        texts = {"__init__.py": "", "a.py": first, "b.py": second, "c.py": third}
        self.assertEqual(package_faults(texts), [("L16", "a.py")])

    def test_no_init(self):
        self.assertEqual(package_faults({"a.py": ""}), [("L14", "__init__.py")])

    def test_a_method_here_and_a_value_there(self):
        first = "class A:\n    def place(self):\n        return 1\n"
        second = "class B:\n    def __init__(self):\n        self.place = 1\n"
        self.assertEqual(package_faults({"__init__.py": "", "a.py": first, "b.py": second}), [("L18", "b.py")])


if __name__ == "__main__":
    unittest.main()
