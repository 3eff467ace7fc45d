"""The package keeps to the rules of LANGUAGE.md, and what looks at them finds breaks that are planted."""

import os
import re
import unittest

import language

ROOT = os.path.join(os.path.dirname(os.path.dirname(os.path.abspath(__file__))), "nevercaught")

PLANTED = {
    "L2": (
        "import os\n", "from os import path\n", "from . import checks\n", "from nevercaught.checks import *\n",
        "from nevercaught.checks import known as other\n", "from nevercaught.nowhere import known\n",
        "from math import sqrt\n", "def f(x):\n    from nevercaught.checks import known\n    return known(x)\n",
        "def f(x):\n    return x\n\n\nfrom nevercaught.checks import known\n"),
    "L3": ("A = len([1])\n", "A, B = 1, 2\n", "print(1)\n", "A = [k for k in (1, 2)]\n", "if True:\n    A = 1\n",
           "for k in (1, 2):\n    pass\n", "A = B = 1\n"),
    "L4": ("def f(x, rows=[]):\n    return rows\n", "def f(x, many=len('a')):\n    return many\n",
           "@staticmethod\ndef f(x):\n    return x\n", "def f(x):\n    return lambda *rest: rest\n"),
    "L5": ("class Box(list):\n    pass\n", "class Box:\n    def __hash__(self):\n        return 1\n",
           "class Box:\n    rows = len('a')\n", "class Box:\n    print(1)\n",
           "class Bad(ValueError):\n    def __bool__(self):\n        return True\n",
           "class Box:\n    @staticmethod\n    def find(x):\n        return x\n",
           "class Box:\n    @staticmethod\n    def low(x):\n        return x\n\n\ndef f(box):\n    box.low = 1\n"),
    "L6": ("async def f():\n    return 1\n", "def f(x):\n    x == 1\n", "def f():\n    global A\n    A = 1\n",
           "def f(xs):\n    xs[1:2] += [1]\n", "def f(box):\n    del box.rows\n"),
    "L7": ("A = 1.5\n", "def f(x):\n    return x / 2\n", "def f(xs):\n    return any(x for x in xs)\n",
           "def f(xs):\n    return sorted({*xs})\n", "def f(x):\n    return ...\n", "def f(x):\n    return f(*f(x))\n",
           "def f(x):\n    if (y := x) > 1:\n        return y\n"),
    "L8": ("def f(x):\n    return hash(x)\n", "def f(x):\n    print(x)\n", "def f(x):\n    return float(x)\n",
           "def f(x):\n    kind = type(x)\n    return kind\n", "def f(x):\n    return x.__name__\n"),
    "L10": ("A = 1\n" + "# more\n" * 399, "A = '" + "x" * 120 + "'\n", "def f(x):\n" + "    x = x\n" * 40, "def f():\n\treturn 1\n"),
    "L12": ("def f(__x):\n    return 1\n", "def f(xs):\n    return [_ for _ in xs]\n", "# the _wall\n", "_wall_row = 1\n",
            "_record = 1\n", "def f(_pe_x):\n    return _pe_x\n"),
    "L13": ("def f():\n    return sorted({1, 2, 3})\n", "def f(xs):\n    return [lambda x: x, lambda x: 1]\n"),
    "L14": ("A = '\u00e9'\n", "# \u2026\n"),
    "L15": ("A = 1\nA = 2\n", "A = [[1]]\n", "def f(max):\n    return max\n", "def f(x):\n    sum = x\n    return sum\n",
            "class Box:\n    pass\n\n\ndef f(Box):\n    return Box\n", "def hash(x):\n    return x\n",
            "from nevercaught.checks import known\n\n\ndef f(known):\n    return known\n",
            "def f(x):\n    class Box:\n        pass\n    return x\n"),
    "L16": ("import nevercaught.checks\n", "from nevercaught.checks import unknown\n", "from nevercaught.ring import turn\n"),
    "L17": ("def f(input):\n    return input\n", "def f(x):\n    return x.register\n", "def law(x):\n    return x\n",
            "A = 'an enum'\n", "def f(x):\n    vars = x\n    return vars\n", "def my_dataclass(x):\n    return x\n",
            "def f(x):\n    return x.f_code\n", "def elements(x):\n    return x\n"),
    "L18": ("class Box:\n    pass\n\n\ndef f():\n    return [Box]\n", "class Box:\n    pass\n\n\ndef f(x):\n    return f(Box)\n",
            "class Box:\n    def rows(self):\n        return 1\n\n    def fill(self):\n        self.rows = 2\n",
            "class Box:\n    def rows(self):\n        return 1\n\n    def rows(self):\n        return 2\n"),
    "L19": ("def f(x):\n    try:\n        return x\n    except TypeError:\n        return 1\n",
            "def f(x):\n    try:\n        return x\n    except:\n        return 1\n",
            "def f(x):\n    raise x.error()\n", "def f(x):\n    raise x\n"),
    "L20": ("def f(x, y):\n    return x is y\n", "def f(x):\n    return x is not 1\n"),
    "L21": ("def f(x: int):\n    return x\n", "def f(x) -> int:\n    return x\n", "def f(x):\n    y: int = x\n    return y\n"),
    "L22": ("def f(xs):\n    return sorted(xs, reverse=True, at=1)\n", "def f(xs):\n    g = len\n    return g(xs)\n",
            "def f(xs):\n    return int('1', base=2)\n"),
    "L23": ("def f(xs):\n    pairs = zip(xs, xs)\n    return 1\n", "def f(xs):\n    return enumerate(xs)\n",
            "def f(d):\n    return d.items()\n", "def f(xs):\n    for x in xs:\n        xs.append(x)\n",
            "def f(xs):\n    for k, x in enumerate(xs):\n        xs[k] = 1\n", "def f(d):\n    for k, x in d.items():\n        del d[k]\n",
            "def f(box):\n    for x in box.rows:\n        box.rows.pop()\n"),
    "L24": ("def f(xs):\n    return set(xs)\n", "def f(xs):\n    for x in set(xs):\n        return x\n",
            "def f(xs):\n    seen = set()\n    f(seen)\n", "def f(xs):\n    seen = set()\n    for x in seen:\n        return x\n",
            "def f(xs):\n    return frozenset(xs)\n", "def f(xs):\n    return [{1, 2}]\n", "def f(xs):\n    seen = set()\n    return seen\n"),
    "L25": ("def f(x):\n    return x.fromkeys(1)\n", "def f(xs):\n    xs.sort()\n", "def f(x):\n    return x.split(sep=' ')\n",
            "def f(x):\n    return x.format_map(1)\n"),
    "L26": ("class Box:\n    def __init__(self):\n        self.items = 1\n",),
    "L27": ("def f(x, y):\n    return x ** y\n", "def f(x):\n    return x ** 65\n", "A = 'a % b'\n", "A = '\\x41'\n", "A = 'ends._'\n",
            "A = '__odd__'\n"),
    "L28": ("class Box:\n    def __init__(self):\n        return None\n",
            "class Box:\n    def __eq__(self, other):\n        self.n = 1\n        return True\n",
            "class Box:\n    def __len__(self):\n        if self:\n            return 1\n",
            "class Box:\n    def __eq__(self, other):\n        self.rows.append(1)\n        return True\n"),
}
KNOWN = "def known(value):\n    return value\n"
RING = "from nevercaught.bad import f\n\n\ndef turn(value):\n    return f(value)\n"
FINE = '''"""A file in which all is well: 100 % of it, whatever type."""

from math import gcd

from nevercaught.checks import known

LIMIT = -3
TABLE = {"a": (1, 2), (1, -1): None}


class Bad(ValueError):
    """An error."""

    def __init__(self, part):
        self.part = part


class Box:
    """A box."""

    def __init__(self, rows, *rest, most=LIMIT and 3):
        self.rows = list(rows)
        self.rest = rest

    def __eq__(self, other):
        return type(self) is type(other) and self.rows == other.rows

    def fill(self, row):
        """One more."""
        self.rows.append(row)


def best(rows, low=-1):
    """Takes what is needed."""
    seen = set()
    for k, row in enumerate(rows):
        if row in seen or row is None:
            raise Bad("rows")
        seen.add(row)
    a, (b, *c) = rows
    try:
        box = Box([x for x in rows for _ in range(3)])
    except Bad as error:
        return error.part
    for row in list(rows):
        rows.append(row)
    while rows:
        box.fill(rows.pop())
    return sorted(set(rows) | {1, 2}) + [f"{known(a)} {b}", gcd(2, 4), TABLE["a"], len({x for x in c}), 3 ** 2, low]
'''.replace("most=LIMIT and 3", "most=3")


class Language(unittest.TestCase):
    def test_the_folder_has_files_of_code_only(self):
        for name in os.listdir(ROOT):
            # Python itself may put this folder there, and it is never committed.
            if name != "__pycache__":
                self.assertRegex(name, r"^[a-z0-9_]+\.py$")
                self.assertTrue(os.path.isfile(os.path.join(ROOT, name)))

    def test_the_package_breaks_no_rule(self):
        files = {}
        for name in os.listdir(ROOT):
            if name.endswith(".py"):
                with open(os.path.join(ROOT, name), encoding="utf-8", newline="") as file:
                    files[name] = file.read()
        self.assertGreater(len(files), 9)
        self.assertEqual(language.breaks_in(files), [])

    def test_each_planted_break_is_found(self):
        for rule, samples in PLANTED.items():
            for sample in samples:
                with self.subTest(rule=rule, sample=sample):
                    files = {"__init__.py": "", "checks.py": KNOWN, "ring.py": RING, "bad.py": sample}
                    if "ring" not in sample:
                        del files["ring.py"]
                    elif "def f" not in sample:
                        files["bad.py"] = sample + "\n\ndef f(x):\n    return turn(x)\n"
                    found = {(found_rule, name) for found_rule, name, _, _ in language.breaks_in(files)}
                    self.assertIn((rule, "bad.py"), found)

    def test_names_of_files(self):
        for name in ("Bad.py", "test_it.py", "law_x.py", "len.py", "math.py", "site.py", "a-b.py", "enum.py"):
            found = language.breaks_in({"__init__.py": "", name: KNOWN})
            self.assertEqual({rule for rule, _, _, _ in found}, {"L14"}, name)
        self.assertTrue(language.breaks_in({"checks.py": KNOWN}))

    def test_what_is_allowed_is_not_reported(self):
        self.assertEqual(language.breaks_in({"__init__.py": "", "checks.py": KNOWN, "fine.py": FINE}), [])

    def test_all_rules_that_a_script_can_see_have_a_planted_break(self):
        seen = set(PLANTED) | {"L1", "L9", "L11"}
        self.assertEqual(sorted(seen, key=lambda rule: int(re.sub(r"\D", "", rule))), [f"L{k}" for k in range(1, 29)])


if __name__ == "__main__":
    unittest.main()
