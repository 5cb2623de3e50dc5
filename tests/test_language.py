"""Those rules of the language that a look at the files of the package can see."""

import ast
import builtins
import pathlib
import re
import unittest

PACKAGE = pathlib.Path(__file__).resolve().parent.parent / "bearerwise"
ALLOWED_BUILTINS = set(
    "len range enumerate zip min max sum abs sorted reversed int str bool list tuple dict set isinstance ord repr"
    " any all divmod pow iter next map getattr hasattr setattr super property staticmethod classmethod"
    " Exception ValueError TypeError KeyError IndexError LookupError RuntimeError NotImplemented StopIteration".split()
)
BARRED_WORDS = re.compile(
    r"\b(typing|typing_extensions|enum|Enum|Generic|Protocol|ABC|namedtuple|NamedTuple|dataclass|global|async|chr)\b"
)


def files():
    return sorted(PACKAGE.glob("*.py"))


def trees():
    return [(path.name, ast.parse(path.read_text())) for path in files()]


def nodes(kind):
    return [(name, node) for name, tree in trees() for node in ast.walk(tree) if isinstance(node, kind)]


def bound_names(tree):
    """All names that are bound anywhere in a file, attributes and methods excepted."""
    bound = []
    methods = [part for node in ast.walk(tree) if isinstance(node, ast.ClassDef) for part in node.body]
    for node in ast.walk(tree):
        if isinstance(node, ast.Name) and isinstance(node.ctx, ast.Store):
            bound.append(node.id)
        elif isinstance(node, ast.arg):
            bound.append(node.arg)
        elif isinstance(node, (ast.FunctionDef, ast.ClassDef)) and node not in methods:
            bound.append(node.name)
    return bound


class LanguageTest(unittest.TestCase):
    def test_the_folder_holds_plainly_named_files_alone(self):
        held = [path.name for path in PACKAGE.iterdir() if path.name != "__pycache__"]
        for name in held:
            self.assertRegex(name, r"^[a-z0-9_]+\.py$")
        self.assertIn("__init__.py", held)

    def test_characters_and_sizes(self):
        for path in files():
            text = path.read_text()
            self.assertRegex(text, r"\A[ -~\n]*\Z", msg=path.name)
            self.assertLessEqual(len(text.splitlines()), 399, msg=path.name)
            self.assertLessEqual(max(len(line) for line in text.splitlines()), 120, msg=path.name)
            self.assertIsNone(BARRED_WORDS.search(text), msg=path.name)
        for name, node in nodes(ast.FunctionDef):
            self.assertLessEqual(node.end_lineno - node.lineno + 1, 40, msg=(name, node.name))

    def test_imports_name_the_file_that_defines_the_name(self):
        defined = {name[:-3]: [node.name for node in tree.body if hasattr(node, "name")] for name, tree in trees()}
        for name, tree in trees():
            defined[name[:-3]] += [
                target.id for node in tree.body if isinstance(node, ast.Assign) for target in node.targets
            ]
        self.assertEqual(nodes(ast.Import), [])
        for name, node in nodes(ast.ImportFrom):
            self.assertRegex(node.module, r"^bearerwise\.[a-z_]+$", msg=name)
            for one in node.names:
                self.assertIn(one.name, defined[node.module.split(".")[1]], msg=name)
                self.assertIsNone(one.asname, msg=name)

    def test_no_two_files_import_from_each_other(self):
        needs = {name[:-3]: [] for name, _ in trees()}
        for name, node in nodes(ast.ImportFrom):
            needs[name[:-3]].append(node.module.split(".")[1])
        while needs:
            free = [name for name in needs if not [one for one in needs[name] if one in needs]]
            self.assertNotEqual(free, [], msg=sorted(needs))
            for name in free:
                del needs[name]

    def test_builtins_keep_their_names_and_only_allowed_ones_are_used(self):
        for name, tree in trees():
            bound = bound_names(tree)
            self.assertEqual([one for one in bound if hasattr(builtins, one)], [], msg=name)
            read = [node.id for node in ast.walk(tree) if isinstance(node, ast.Name)]
            barred = [one for one in read if hasattr(builtins, one) and one not in ALLOWED_BUILTINS]
            self.assertEqual(barred, [], msg=name)

    def test_statements_and_values_that_are_not_allowed(self):
        barred = (ast.Global, ast.AsyncFunctionDef, ast.Await, ast.Div)
        self.assertEqual([(name, ast.dump(node)) for name, node in nodes(barred)], [])
        for name, node in nodes(ast.Constant):
            self.assertNotIsInstance(node.value, float, msg=name)
            if isinstance(node.value, str):
                self.assertNotIn("%", node.value, msg=name)

    def test_exponents_are_literals(self):
        for name, node in nodes(ast.BinOp):
            if isinstance(node.op, ast.Pow):
                self.assertIsInstance(node.right, ast.Constant, msg=(name, node.lineno))


if __name__ == "__main__":
    unittest.main()
