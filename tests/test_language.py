"""The package keeps to ../shared/LANGUAGE.md, L1 to L28; and the look for that sees each rule broken."""

import pathlib
import unittest

from tests.language_rules import findings_of

FOLDER = pathlib.Path(__file__).resolve().parent.parent / "shapefile"

DEF = "def work(xs, n):\n"

BROKEN = [
    ("L2", "def work(xs):\n    return xs\n\n\nfrom shapefile.other import name\n"),
    ("L2", "from .other import name\n"),
    ("L2", "from shapefile.other import *\n"),
    ("L2", "from math import floor\n"),
    ("L2", DEF + "    from shapefile.other import name\n    return name\n"),
    ("L3", "work(3)\n"),
    ("L3", "SIZE = 3 + 4\n"),
    ("L3", "SIZE = 3\nSIZES = (SIZE, 4)\n"),
    ("L3", "for k in (1, 2):\n    pass\n"),
    ("L4", "def work(*xs):\n    return xs\n"),
    ("L4", "def work(**xs):\n    return xs\n"),
    ("L4", "def work(*, xs):\n    return xs\n"),
    ("L4", "def plain(x):\n    return x\n\n\n@plain\ndef work(xs):\n    return xs\n"),
    ("L4", "def work(xs=len('a')):\n    return xs\n"),
    ("L5", "class Thing:\n    size = 3\n"),
    ("L5", "class Thing:\n    def __hash__(self):\n        return 3\n"),
    ("L5", "class Thing(dict):\n    pass\n"),
    ("L5", "class One:\n    pass\n\n\nclass Two:\n    pass\n\n\nclass Three(One, Two):\n    pass\n"),
    ("L6", DEF + "    with xs:\n        return n\n"),
    ("L6", DEF + "    del xs[n]\n"),
    ("L6", DEF + "    assert n\n"),
    ("L6", DEF + "    yield n\n"),
    ("L6", DEF + "    global SIZE\n    SIZE = n\n"),
    ("L6", DEF + "    match n:\n        case 1:\n            return xs\n"),
    ("L6", DEF + "    for x in xs:\n        pass\n    else:\n        return n\n"),
    ("L6", DEF + "    while n:\n        n -= 1\n    else:\n        return n\n"),
    ("L6", DEF + "    a = b = n\n    return a + b\n"),
    ("L6", DEF + "    a, b = n, n\n    return a + b\n"),
    ("L6", DEF + "    try:\n        return xs\n    finally:\n        n = 3\n"),
    ("L6", DEF + "    try:\n        return xs\n    except:\n        return n\n"),
    ("L6", DEF + "    n + 1\n"),
    ("L7", DEF + "    return n / 2\n"),
    ("L7", DEF + "    return 2.5\n"),
    ("L7", DEF + "    return b'a'\n"),
    ("L7", DEF + "    return [*xs]\n"),
    ("L7", DEF + "    return work(*xs)\n"),
    ("L7", DEF + "    return {**xs}\n"),
    ("L7", DEF + "    return {x for x in xs}\n"),
    ("L7", DEF + "    return {x: 1 for x in xs}\n"),
    ("L7", DEF + "    return sum(x for x in xs)\n"),
    ("L7", DEF + "    return [x + y for x in xs for y in xs]\n"),
    ("L7", DEF + "    return [x for x in xs if x if n]\n"),
    ("L7", DEF + "    return (k := n)\n"),
    ("L7", DEF + "    return f'{n + 1}'\n"),
    ("L7", DEF + "    return f'{n:3}'\n"),
    ("L8", DEF + "    return map(n, xs)\n"),
    ("L8", DEF + "    print(n)\n"),
    ("L8", DEF + "    return bytes(xs)\n"),
    ("L8", "def len(xs):\n    return xs\n"),
    ("L8", DEF + "    return 'a'.format(n)\n"),
    ("L9", DEF + "    print(n)\n"),
    ("L9", DEF + "    return open(n)\n"),
    ("L10", DEF + "    n += 1\n" * 40 + "    return n\n"),
    ("L10", DEF + "    # " + "a" * 120 + "\n    return n\n"),
    ("L10", DEF + "\treturn n\n"),
    ("L10", "# a row\n" * 401),
    ("L11", DEF + "    for x in set(xs):\n        n += x\n    return n\n"),
    ("L12", DEF + "    for _ in xs:\n        n += 1\n    return n\n"),
    ("L12", "def _work(xs):\n    return xs\n"),
    ("L12", DEF + "    return n.__class__\n"),
    ("L13", DEF + "    return sorted({1, 2, 3})\n"),
    ("L13", DEF + "    return work(lambda a: a, lambda a: n)\n"),
    ("L14", DEF + "    return n  # \u00e4\n"),
    ("L15", "SIZE = 3\nSIZE = 4\n"),
    ("L15", "ROWS = [[1], 2]\n"),
    ("L15", "ROWS = [1, 2]\n\n\ndef work(n):\n    ROWS.append(n)\n"),
    ("L15", "ROWS = [1, 2]\n\n\ndef work(n):\n    ROWS[0] = n\n"),
    ("L15", "ROWS = [1, 2]\n\n\ndef work():\n    return ROWS\n"),
    ("L15", "def work(id):\n    return 3\n"),
    ("L15", DEF + "    hash = n\n    return hash\n"),
    ("L15", "from shapefile.other import name\n\n\ndef work(name):\n    return name\n"),
    ("L15", DEF + "    class Thing:\n        pass\n    return n\n"),
    ("L16", "import shapefile.other\n"),
    ("L16", "from shapefile.other import missing\n"),
    ("L17", "def work(register):\n    return register\n"),
    ("L17", DEF + "    return getattr(xs, n)\n"),
    ("L17", DEF + "    return n  # its type\n"),
    ("L17", DEF + "    return n  # an overloaded one\n"),
    ("L17", DEF + "    return __name__\n"),
    ("L17", DEF + "    return xs.f_back\n"),
    ("L18", "class Thing:\n    pass\n\n\ndef work():\n    return [Thing]\n"),
    ("L18", "class Thing:\n    pass\n\n\ndef work():\n    Thing.size = 3\n"),
    ("L18", "class Thing:\n    def size(self):\n        return 1\n\n    def size(self):\n        return 2\n"),
    ("L18", "class Thing:\n    def size(self):\n        return 1\n\n\ndef work(thing):\n    thing.size = 3\n"),
    ("L18", "class Wrong(AttributeError):\n    pass\n"),
    ("L19", DEF + "    try:\n        return xs\n    except Exception:\n        return n\n"),
    ("L19", DEF + "    try:\n        return xs\n    except TypeError:\n        return n\n"),
    ("L19", DEF + "    raise ValueError\n"),
    ("L20", DEF + "    return n is xs\n"),
    ("L20", DEF + "    return n is 3\n"),
    ("L21", "def work(n: int):\n    return n\n"),
    ("L21", "def work(n) -> int:\n    return n\n"),
    ("L21", DEF + "    k: int = n\n    return k\n"),
    ("L22", DEF + "    call = len\n    return call(xs)\n"),
    ("L22", DEF + "    return sorted(xs, reverse=n)\n"),
    ("L22", DEF + "    return int(n, base=3)\n"),
    ("L22", DEF + "    return isinstance(n, set)\n"),
    ("L22", DEF + "    return xs.split(sep=n)\n"),
    ("L23", DEF + "    walk = range(n)\n    return walk\n"),
    ("L23", DEF + "    return n in range(3)\n"),
    ("L23", DEF + "    return xs.keys()\n"),
    ("L23", DEF + "    for x in xs:\n        xs.append(x)\n"),
    ("L23", DEF + "    for k, x in enumerate(xs):\n        xs[k] = x\n"),
    ("L23", DEF + "    for x in xs.items():\n        xs.pop(n)\n"),
    ("L24", DEF + "    return set(xs)\n"),
    ("L24", DEF + "    seen = {n}\n    return seen\n"),
    ("L25", DEF + "    xs.sort()\n"),
    ("L25", DEF + "    return n.to_bytes(2)\n"),
    ("L25", DEF + "    return xs.append\n"),
    ("L26", "class Thing:\n    def sort(self):\n        return 1\n"),
    ("L26", "class Thing:\n    def __init__(self):\n        self.items = 1\n"),
    ("L26", "class Thing:\n    def __init__(self):\n        self.real = 1\n"),
    ("L27", DEF + "    return 2 ** n\n"),
    ("L27", DEF + "    return 2 ** 65\n"),
    ("L27", DEF + "    return 'a % b'\n"),
    ("L27", DEF + "    return '\\x41'\n"),
    ("L27", DEF + "    return r'a'\n"),
    ("L28", "class Thing:\n    def __init__(self):\n        return None\n"),
    ("L28", "class Thing:\n    def __len__(self):\n        return self.work()\n\n    def work(self):\n        return 3\n"),
    ("L28", "class Thing:\n    def __str__(self):\n        return 3\n"),
    ("L28", "class Thing:\n    def __eq__(self, other):\n        self.seen = other\n        return True\n"),
]

KEPT = [
    "",
    '"""Words."""\n\nfrom shapefile.other import name\n\nSIZE = -3\nROWS = [1, (2, "a")]\nKINDS = {1: "a", "b": None}\n',
    DEF + "    return [x * 2 for x in xs if x > n] + [k for k, x in enumerate(xs)]\n",
    DEF + "    for k in range(n):\n        xs[k] += 2 ** 24 % 7\n    return xs\n",
    DEF + "    for k, x in enumerate(list(xs)):\n        xs[k] = x\n    return xs\n",
    DEF + "    return n in {1, 2, 3} or len(set(xs)) == n or set(xs) == set(n)\n",
    DEF + "    return sorted(set(xs) | set(n)) + sorted(xs, key=lambda x: -x, reverse=True)\n",
    DEF + "    return isinstance(n, (int, str)) and n is not None and max(xs, key=len, default=None) is None\n",
    DEF + "    return f'{n} and {n!r}' + 'a\\n\\t\\\\\\'' + ', '.join([str(x) for x in xs])\n",
    "class Wrong(ValueError):\n    pass\n\n\ndef work(n):\n    try:\n        return n\n    except Wrong as e:\n"
    "        raise Wrong('a') from e\n",
    "class Thing:\n    def __init__(self, n):\n        self.size = n\n\n    def __len__(self):\n        return len(self.size)\n"
    "\n\ndef work(n):\n    thing = Thing(n)\n    thing.size = [n]\n    return thing.size\n",
    "ROWS = [1, 2]\n\n\ndef work(n):\n    return ROWS[n] + len(ROWS) + sum([x for x in ROWS]) if n in ROWS else list(ROWS)\n",
]


def looked_at(source, path="sample.py"):
    files = {"__init__.py": b"", "other.py": b"name = 3\n", path: source.encode("utf-8")}
    return [finding for finding in findings_of(files) if finding[1] in (path, "", path.removesuffix(".py"))]


class ThePackage(unittest.TestCase):
    def test_keeps_to_the_rules(self):
        files = {}
        for path in sorted(FOLDER.rglob("*")):
            if path.is_file() and "__pycache__" not in path.parts:
                files[path.relative_to(FOLDER).as_posix()] = path.read_bytes()
        self.assertIn("glyphs.py", files)
        self.assertIn("__init__.py", files)
        self.assertEqual(findings_of(files), [])


class TheLook(unittest.TestCase):
    def test_sees_each_rule_broken(self):
        for rule, source in BROKEN:
            with self.subTest(rule=rule, source=source):
                found = looked_at(source)
                # A clock, a file or a walked set is seen by the row that keeps its name or its form out.
                wanted = {"L9": {"L8", "L17"}, "L11": {"L24"}}.get(rule, {rule})
                self.assertTrue(wanted & {finding[0] for finding in found}, found)

    def test_lets_pass_what_keeps_to_them(self):
        for source in KEPT:
            with self.subTest(source=source):
                self.assertEqual(looked_at(source), [])

    def test_sees_files_that_do_not_belong_there(self):
        for path in ("data.txt", "Other.py", "test_work.py", "tests.py", "len.py", "typing.py", "a-b.py",
                     "site.py", "inner/work.py", "inner/__main__.py"):
            with self.subTest(path=path):
                found = findings_of({"__init__.py": b"", path: b""})
                self.assertTrue({"L1", "L14"} & {finding[0] for finding in found})
        self.assertEqual(findings_of({"__init__.py": b"", "work.py": b""}), [])
        self.assertNotEqual(findings_of({"work.py": b""}), [])
        self.assertIn("L1", [finding[0] for finding in findings_of({"__init__.py": b"", "work.py": b"# \xff\n"})])

    def test_sees_files_that_draw_from_one_another(self):
        draw = b"from shapefile.%s import %s\n\n\ndef %s():\n    return 3\n"
        files = {"__init__.py": b"", "one.py": draw % (b"two", b"second", b"first"),
                 "two.py": draw % (b"three", b"third", b"second"), "three.py": b"def third():\n    return 3\n"}
        self.assertEqual(findings_of(files), [])
        files["three.py"] = draw % (b"one", b"first", b"third")
        self.assertEqual({finding[0] for finding in findings_of(files)}, {"L16"})
        files["three.py"] = b"def third():\n    return 3\n"
        files["__init__.py"] = b"from shapefile.one import first\n"
        self.assertEqual({finding[0] for finding in findings_of(files)}, {"L16"})
        files["__init__.py"] = b"one = 3\n"
        self.assertEqual({finding[0] for finding in findings_of(files)}, {"L16"})


if __name__ == "__main__":
    unittest.main()
