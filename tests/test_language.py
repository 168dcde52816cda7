import pathlib
import unittest

from tests.language import drawn_from, faults_of, own_names, taken_names

PACKAGE = pathlib.Path(__file__).resolve().parent.parent / "trunksay"

WRONG = (
    ("L2", "from sys import argv\n"), ("L2", "from .errors import NoTree\n"), ("L3", "print('x')\n"),
    ("L3", "LETTERS = list('ab')\n"), ("L4", "def f(*xs):\n    return xs\n"),
    ("L5", "class A:\n    size = 1\n"), ("L6", "def f():\n    a = b = 1\n    return a\n"),
    ("L6", "def f(x):\n    assert x\n"), ("L7", "def f(x):\n    return x / 2\n"),
    ("L7", "def f(x):\n    return any(y for y in x)\n"), ("L8", "def f(x):\n    return hash(x)\n"),
    ("L10", "def f():\n" + "    f()\n" * 40), ("L10", "#" * 121 + "\n"), ("L12", "def f(_x):\n    return 1\n"),
    ("L14", "# \u00e4\n"), ("L15", "def f(id):\n    return id\n"), ("L15", "A = 1\nA = 2\n"),
    ("L15", "from trunksay.a import b\n\n\ndef f(b):\n    return b\n"),
    ("L15", "from trunksay.a import b\n\n\ndef f():\n    b = 1\n    return b\n"),
    ("L17", "# the type of it\n"), ("L19", "def f():\n    try:\n        f()\n    except Exception:\n        pass\n"),
    ("L20", "def f(x):\n    return x is f\n"), ("L21", "def f(x: int):\n    return x\n"),
    ("L23", "def f(x):\n    y = range(x)\n    return y\n"), ("L24", "def f(x):\n    y = set(x)\n    return y\n"),
    ("L25", "def f(x):\n    return x.title()\n"), ("L27", "def f(x):\n    return 2 ** x\n"),
    ("L27", "def f():\n    return '%'\n"),
)


class Language(unittest.TestCase):
    def test_the_looker_finds_what_is_wrong(self):
        for rule, text in WRONG:
            self.assertIn(rule, [found for found, line in faults_of("trunksay", text)], text)

    def test_each_file_of_the_package(self):
        files = sorted(PACKAGE.glob("*.py"))
        self.assertIn(PACKAGE / "__init__.py", files)
        for file in files:
            self.assertEqual(faults_of("trunksay", file.read_text("utf-8")), [], file.name)

    def test_no_two_files_draw_from_one_another(self):
        drawn = {file.stem: drawn_from("trunksay", file.read_text("utf-8")) for file in PACKAGE.glob("*.py")}
        while drawn:
            free = [file for file, others in drawn.items() if not any(other in drawn for other in others)]
            self.assertNotEqual(free, [], drawn)
            for file in free:
                drawn.pop(file)

    def test_names_of_methods_and_of_values(self):
        # L18 and L26, over the whole package.
        pairs = [own_names(file.read_text("utf-8")) for file in PACKAGE.glob("*.py")]
        methods = set().union(*[each for each, _ in pairs])
        values = set().union(*[each for _, each in pairs])
        self.assertTrue({"ask", "put", "tree_now"} <= methods and {"tree", "rooms"} <= values)
        self.assertEqual(methods & values, set())
        not_methods, not_values = taken_names()
        self.assertEqual((methods & not_methods, values & not_values), (set(), set()))

    def test_nothing_else_lies_in_the_package(self):
        others = [file.name for file in PACKAGE.iterdir() if file.suffix != ".py" and file.name != "__pycache__"]
        self.assertEqual(others, [])


if __name__ == "__main__":
    unittest.main()
