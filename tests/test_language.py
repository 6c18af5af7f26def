"""That the package keeps to LANGUAGE.md as far as it can be seen, and that the looking sees."""

import pathlib
import unittest

from language_rules import faults

PACKAGE = pathlib.Path(__file__).resolve().parent.parent / "movetables"

GOOD = '"""Remark."""\n\nfrom movetables.other import other\n\nMOST = -3\n\n\ndef plain(xs):\n    return [other(x) for x in xs]\n'
OTHER = "def other(x):\n    return x\n"

# Each piece with the rule that it breaks.
BAD = [
    ("L1", "Plain.py", "def plain(x):\n    return x\n"),
    ("L2", "plain.py", "import sys\n"),
    ("L2", "plain.py", "from sys import argv\n"),
    ("L2", "plain.py", "from .other import other\n"),
    ("L2", "plain.py", "def plain(x):\n    from movetables.other import other\n    return other(x)\n"),
    ("L3", "plain.py", "def plain(x):\n    return x\nplain(1)\n"),
    ("L3", "plain.py", "MOST = len('abc')\n"),
    ("L4", "plain.py", "def plain(*xs):\n    return xs\n"),
    ("L5", "plain.py", "class Plain:\n    kept = 3\n"),
    ("L6", "plain.py", "def plain(x):\n    a, b = x\n    return a\n"),
    ("L6", "plain.py", "def plain(x):\n    a = b = x\n    return a\n"),
    ("L6", "plain.py", "def plain(x):\n    assert x\n"),
    ("L6", "plain.py", "def plain(x):\n    yield x\n"),
    ("L6", "plain.py", "def plain(xs):\n    for x in xs:\n        pass\n    else:\n        pass\n"),
    ("L7", "plain.py", "def plain(x):\n    return x / 2\n"),
    ("L7", "plain.py", "def plain(x):\n    return 0.5\n"),
    ("L7", "plain.py", "def plain(x):\n    return b'a'\n"),
    ("L7", "plain.py", "def plain(xs):\n    return {x: 1 for x in xs}\n"),
    ("L7", "plain.py", "def plain(xs):\n    return [y for x in xs for y in x]\n"),
    ("L7", "plain.py", "def plain(xs):\n    return all(x for x in xs)\n"),
    ("L8", "plain.py", "def plain(x):\n    return print(x)\n"),
    ("L8", "plain.py", "def plain(x):\n    return pow(x, 2)\n"),
    ("L10", "plain.py", "def plain(x):\n" + "    x = x\n" * 40),
    ("L10", "plain.py", "# " + "a" * 120 + "\n"),
    ("L10", "plain.py", "# a\n" * 401),
    ("L12", "plain.py", "def plain(_):\n    return _\n"),
    ("L12", "plain.py", "def _plain(x):\n    return x\n"),
    ("L14", "plain.py", "# \u00e9\n"),
    ("L14", "plain.py", "#\ta\n"),
    ("L14", "range.py", "MOST = 3\n"),
    ("L15", "plain.py", "MOST = 3\nMOST = 4\n"),
    ("L15", "plain.py", "def plain(next):\n    return next\n"),
    ("L15", "plain.py", "KEPT = []\n\n\ndef plain(x):\n    KEPT.append(x)\n"),
    ("L16", "plain.py", "from movetables.other import missing\n"),
    ("L17", "plain.py", "# the type of it\n"),
    ("L17", "plain.py", "def plain(x):\n    return id(x)\n"),
    ("L19", "plain.py", "def plain(x):\n    try:\n        return x[0]\n    except Exception:\n        return 0\n"),
    ("L20", "plain.py", "def plain(x, y):\n    return x is y\n"),
    ("L21", "plain.py", "def plain(x: int):\n    return x\n"),
    ("L22", "plain.py", "def plain(x):\n    return int(x, base=2)\n"),
    ("L23", "plain.py", "def plain(x):\n    xs = range(x)\n    return xs\n"),
    ("L23", "plain.py", "def plain(xs):\n    for x in xs:\n        xs.append(x)\n"),
    ("L23", "plain.py", "def plain(xs):\n    for k, x in enumerate(xs):\n        xs[k] = x\n"),
    ("L24", "plain.py", "def plain(xs):\n    kept = set(xs)\n    return kept\n"),
    ("L25", "plain.py", "def plain(xs):\n    xs.sort()\n"),
    ("L26", "plain.py", "class Plain:\n    def __init__(self):\n        self.items = 3\n"),
    ("L27", "plain.py", "def plain(x):\n    return 2 ** x\n"),
    ("L27", "plain.py", "def plain(x):\n    return 'a%b'\n"),
    ("L28", "plain.py", "class Plain:\n    def __init__(self):\n        return None\n"),
]


class Language(unittest.TestCase):
    def sources(self):
        return {path.name: path.read_bytes().decode("utf-8") for path in PACKAGE.glob("*.py")}

    def test_the_package_keeps_to_the_rules(self):
        self.assertEqual(faults(self.sources()), [])

    def test_nothing_but_files_of_the_program_lies_in_the_package(self):
        others = [path.name for path in PACKAGE.iterdir() if path.suffix != ".py" and path.name != "__pycache__"]
        self.assertEqual(others, [])
        self.assertIn("__init__.py", self.sources())
        self.assertIn("tables.py", self.sources())

    def test_a_good_file_has_no_faults(self):
        self.assertEqual(faults({"plain.py": GOOD, "other.py": OTHER}), [])

    def test_each_bad_piece_is_seen(self):
        for rule, name, source in BAD:
            found = faults({name: source, "other.py": OTHER})
            self.assertIn((rule, name), [fault[:2] for fault in found], source)

    def test_files_that_draw_from_one_another_are_seen(self):
        one = "from movetables.two import two\n\n\ndef one(x):\n    return two(x)\n"
        two = "from movetables.one import one\n\n\ndef two(x):\n    return one(x)\n"
        self.assertIn(("L16", "one.py", 0), faults({"one.py": one, "two.py": two}))


if __name__ == "__main__":
    unittest.main()
