import ast
import pathlib
import re
import unittest

from language import breaches, imports_between, on_a_circle, own_names

PACKAGE = pathlib.Path(__file__).resolve().parent.parent / "deltaloom"
NAME = "deltaloom"


def files():
    return sorted(path for path in PACKAGE.iterdir() if path.name != "__pycache__")


def trees():
    return {f"{NAME}.{path.stem}": ast.parse(path.read_text()) for path in files()}


class Package(unittest.TestCase):
    def test_the_folder_contains_only_python_files_with_plain_names(self):
        self.assertIn(PACKAGE / "__init__.py", files())
        for path in files():
            self.assertTrue(re.fullmatch(r"[a-z0-9_]+\.py", path.name), path.name)

    def test_no_file_breaks_a_rule(self):
        own = own_names(trees().values())
        for path in files():
            self.assertEqual(breaches(path.read_text(), NAME, own), [], path.name)

    def test_imported_names_are_defined_in_the_file_they_are_imported_from(self):
        held = trees()
        for tree in held.values():
            for node in ast.walk(tree):
                if isinstance(node, ast.ImportFrom) and node.module in held:
                    defined = [getattr(part, "name", None) for part in held[node.module].body]
                    parts = [part for part in held[node.module].body if isinstance(part, ast.Assign)]
                    defined += [part.targets[0].id for part in parts]
                    for alias in node.names:
                        self.assertIn(alias.name, defined)

    def test_no_files_import_from_each_other(self):
        self.assertEqual(on_a_circle(imports_between(trees(), NAME)), [])


class Checker(unittest.TestCase):
    """The checks would be worth nothing if they let everything pass."""

    def test_breaches_are_found(self):
        wrong = [
            "import heapq\n", "from os import path\n", "from .values import rank\n", "from deltaloom.values import *\n",
            "def f():\n    from deltaloom.values import rank\n", "f = len([1])\n", "if 1:\n    pass\n", "def f():\n    return 1.5\n",
            "def f(n):\n    return n / 2\n", "def f():\n    return 'a%b'\n", "def f(n):\n    return hash(n)\n",
            "def f(min):\n    return 1\n", "def f(n):\n    sum = n\n    return 1\n", "def f(n):\n    return n.format_map(n)\n",
            "def f():\n    return [k for k in {1, 2}]\n", "def f():\n    try:\n        pass\n    except:\n        pass\n",
            "def f():\n    return 'enum'\n", "def f():\n    return '\u00e9'\n", "X = 1  #\t\n",
            "def law():\n    return 1\n", "# " + "x" * 120 + "\n", "# x\n" * 400, "async def f():\n    return 1\n",
            "def f():\n" + "    x = 1\n" * 40, "def f():\n    global x\n    x = 1\n", "def f():\n    return open\n",
            "from deltaloom.values import rank\ndef f(rank):\n    return 1\n", "class C:\n    pass\ndef f():\n    C = 1\n",
            "from deltaloom.values import rank\ndef f(xs):\n    return [1 for rank in xs]\n",
            "class C:\n    def __del__(self):\n        pass\n", "ZERO = ('bag', [])\n", "X = {'a': {}}\n",
            "def f(n):\n    return n is f\n", "def f(n):\n    return bytes(n)\n", "def f(n):\n    return n.to_bytes(4, 'big')\n",
            "def f(n, k):\n    return n ** k\n", "def f(n):\n    return chr(n)\n",
        ]
        for text in wrong:
            self.assertNotEqual(breaches(text, NAME, set()), [], text)

    def test_plain_code_passes(self):
        plain = [
            '"""Words."""\n', "from deltaloom.values import rank\n", "from heapq import heappush, heappop\n",
            "LIMIT = -2147483648\n", "def f(rows):\n    return sorted(rows, key=len)\n", "def f():\n" + "    x = 1\n" * 39,
            "X = ['a', 'b']\n", "X = {'a': ((), True)}\n", "def f(n):\n    return n is None or n is not True\n",
            "def f(n):\n    return n ** 2\n", "# " + "x" * 118 + "\n", "# x\n" * 399, "def f(rows):\n    rows.append(1)\n    return rows.items()\n",
        ]
        for text in plain:
            self.assertEqual(breaches(text, NAME, set()), [], text)

    def test_circles_of_imports_are_found(self):
        self.assertEqual(on_a_circle({"a": ["b"], "b": ["c"], "c": ["b"]}), ["b", "c"])
        self.assertEqual(on_a_circle({"a": ["b", "c"], "b": ["c"], "c": []}), [])


if __name__ == "__main__":
    unittest.main()
