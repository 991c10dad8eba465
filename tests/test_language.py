"""Tests that the package's own files keep to ../shared/LANGUAGE.md, where that can be seen."""

import pathlib
import unittest

from tests.language import PACKAGE, faults

FOLDER = pathlib.Path(__file__).resolve().parent.parent / PACKAGE


def package_files():
    """Each entry of the package and its text; what Python itself lays there is left out."""
    files = {}
    for path in sorted(FOLDER.rglob("*")):
        if path.is_file() and "__pycache__" not in path.parts:
            files[path.relative_to(FOLDER).as_posix()] = path.read_bytes().decode("utf-8")
    return files


GOOD = '"""A file."""\n\nLEAST = -5\nPAIRS = ((1, 2), (3, 4))\n\n\ndef add_one(number):\n    return number + 1\n'

FAULTY_FILES = (
    ("L1", {"Rods.py": GOOD}),
    ("L1", {"notes.txt": "words"}),
    ("L1", {"part/__init__.py": GOOD, "part/__main__.py": GOOD}),
    ("L14", {"part/rods.py": GOOD}),
    ("L14", {"test_rods.py": GOOD}),
    ("L14", {"filter.py": GOOD}),
    ("L14", {"enum.py": GOOD}),
    ("L16", {"rods.py": '"""A file."""\n\n\ndef judge(make):\n    return [0]\n'}),
    ("L16", {"frames.py": '"""A file."""\n\n\ndef judge(make, more=1):\n    return [0]\n'}),
    ("L16", {"frames.py": '"""A file."""\n\nfrom beadframes.rods import nth\n', "rods.py": GOOD}),
    ("L16", {"rods.py": '"""A file."""\n\nfrom beadframes.beads import add_two\n', "beads.py": GOOD}),
    ("L16", {
        "rods.py": '"""A file."""\n\nfrom beadframes.beads import two\n\n\ndef one():\n    return two()\n',
        "beads.py": '"""A file."""\n\nfrom beadframes.rods import one\n\n\ndef two():\n    return one()\n',
    }),
)

FAULTY_TOPS = (
    ("L2", "from .frames import judge"),
    ("L2", "from itertools import product"),
    ("L16", "import math"),
    ("L16", "import beadframes.frames"),
    ("L3", "print(1)"),
    ("L3", "LEAST = len('abc')"),
    ("L3", "if True:\n    LEAST = 1"),
    ("L4", "def one(*numbers):\n    return 1"),
    ("L4", "def one(*, number):\n    return 1"),
    ("L4", "@one\ndef two():\n    return 1"),
    ("L5", "class One(ValueError, KeyError):\n    pass"),
    ("L10", "LONG = '" + "a" * 120 + "'"),
    ("L10", "def one():\n" + "    pass\n" * 40),
    ("L10", "\n" * 400),
    ("L12", "def _one():\n    return 1"),
    ("L14", "TEXT = '\u00e9'"),
    ("L14", "def one():\n\treturn 1"),
    ("L15", "LEAST = 1\nLEAST = 2"),
    ("L15", "def map():\n    return 1"),
    ("L17", "# a type of rod"),
    ("L17", "TEXT = 'dataclasses'"),
)

FAULTY_LINES = (
    ("L6", "assert number"),
    ("L6", "del number"),
    ("L6", "first = second = number"),
    ("L6", "number + 1"),
    ("L6", "with number:\n        pass"),
    ("L6", "for one in number:\n        pass\n    else:\n        pass"),
    ("L6", "try:\n        pass\n    except:\n        pass"),
    ("L6", "try:\n        pass\n    finally:\n        pass"),
    ("L7", "return number / 2"),
    ("L7", "return 0.5"),
    ("L7", "return b'a'"),
    ("L7", "return {one: 1 for one in number}"),
    ("L7", "return {one for one in number}"),
    ("L7", "return sum(one for one in number)"),
    ("L7", "return [one + two for one in number for two in number]"),
    ("L7", "return [*number]"),
    ("L7", "return (one := number)"),
    ("L7", "return f'{number:3}'"),
    ("L7", "yield number"),
    ("L8", "print(number)"),
    ("L8", "return pow(number, 2)"),
    ("L8", "return chr(number)"),
    ("L12", "for _ in number:\n        pass"),
    ("L15", "hash = number"),
    ("L15", "next = number"),
    ("L17", "return getattr(number, 'real')"),
    ("L17", "return number.tb_next"),
    ("L17", "return __name__"),
    ("L20", "return number is 5"),
    ("L25", "number.sort()"),
    ("L27", "return 2 ** number"),
    ("L27", "return 2 ** 65"),
    ("L27", "return '%'"),
    ("L2", "from beadframes.frames import judge"),
)


class TheLanguage(unittest.TestCase):
    def test_the_package_keeps_to_the_rules(self):
        files = package_files()
        self.assertIn("__init__.py", files)
        self.assertIn("frames.py", files)
        self.assertEqual(faults(files), [])

    def rules_broken(self, files):
        return {rule for rule, what in faults({"__init__.py": GOOD, **files})}

    def test_a_good_file_is_let_through(self):
        self.assertEqual(self.rules_broken({"frames.py": GOOD, "part/__init__.py": GOOD, "part/rods.py": GOOD}), set())

    def test_a_faulty_file_is_found(self):
        for rule, files in FAULTY_FILES:
            with self.subTest(rule=rule, files=files):
                self.assertIn(rule, self.rules_broken(files))

    def test_a_faulty_top_is_found(self):
        for rule, rows in FAULTY_TOPS:
            with self.subTest(rule=rule, rows=rows):
                self.assertIn(rule, self.rules_broken({"rods.py": f'"""A file."""\n\n{rows}\n'}))

    def test_a_faulty_line_is_found(self):
        for rule, rows in FAULTY_LINES:
            with self.subTest(rule=rule, rows=rows):
                text = f'"""A file."""\n\n\ndef one(number):\n    {rows}\n'
                self.assertIn(rule, self.rules_broken({"frames.py": text}))


if __name__ == "__main__":
    unittest.main()
