"""Some rules of the language that the files of the package keep to."""

import ast
import builtins
import re
import unittest
from pathlib import Path

PACKAGE = Path(__file__).resolve().parent.parent / "oddkeep"
LIBRARY = {
    "heapq": {"heappush", "heappop", "heapify", "heapreplace", "heappushpop"},
    "math": {"gcd", "lcm", "isqrt", "comb", "perm", "factorial"},
    "itertools": {
        "product", "combinations", "permutations", "chain", "accumulate", "pairwise", "islice", "zip_longest",
    },
    "collections": {"defaultdict"},
}
MODULE_LEVEL = (ast.ImportFrom, ast.FunctionDef, ast.ClassDef, ast.Assign)
BUILTINS = set("""
    len range enumerate zip min max sum abs sorted reversed int str bool bytes list tuple dict set frozenset isinstance
    ord repr any all divmod pow super property
""".split()) | {name for name in dir(builtins) if name.endswith("Error")}
METHODS = set("""
    append clear copy count endswith extend find get index insert isalnum isalpha isdigit islower isspace isupper items
    join keys ljust lower lstrip partition pop remove replace reverse rfind rjust rpartition rsplit rstrip setdefault
    split splitlines startswith strip update upper values zfill bit_length add discard removeprefix removesuffix isascii
""".split())
NEVER = (ast.Global, ast.AsyncFunctionDef, ast.Await, ast.Import, ast.Div)


def sources():
    return {path.name: path.read_text(encoding="utf-8") for path in sorted(PACKAGE.glob("*.py"))}


def parsed():
    return [(name, text, ast.parse(text)) for name, text in sources().items()]


def is_docstring(statement):
    return isinstance(statement, ast.Expr) and isinstance(statement.value, ast.Constant)


def defined_in(tree):
    names = [node.name for node in tree.body if isinstance(node, (ast.FunctionDef, ast.ClassDef))]
    return names + [node.targets[0].id for node in tree.body if isinstance(node, ast.Assign)]


class Language(unittest.TestCase):
    def test_the_folder_has_only_files_of_python(self):
        names = [path.name for path in PACKAGE.iterdir() if path.name != "__pycache__"]
        self.assertIn("__init__.py", names)
        for name in names:
            self.assertRegex(name, r"\A[a-z0-9_]+\.py\Z")

    def test_sizes_and_characters(self):
        for name, text, tree in parsed():
            lines = text.splitlines()
            self.assertRegex(text, r"\A[ -~\n]*\Z", name)
            self.assertLessEqual(len(lines), 399, name)
            self.assertLessEqual(max([len(line) for line in lines]), 120, name)
            for node in ast.walk(tree):
                if isinstance(node, ast.FunctionDef):
                    self.assertLessEqual(node.end_lineno - node.lineno + 1, 40, node.name)

    def test_statements(self):
        for name, text, tree in parsed():
            for statement in tree.body:
                self.assertTrue(is_docstring(statement) or isinstance(statement, MODULE_LEVEL), name)
            for node in ast.walk(tree):
                self.assertNotIsInstance(node, NEVER, name)
                if isinstance(node, ast.Constant):
                    self.assertNotIsInstance(node.value, (float, complex), name)
                    self.assertNotIn("%", str(node.value), name)

    def test_imports_name_the_file_that_defines(self):
        defined = {f"oddkeep.{name[:-3]}": defined_in(ast.parse(text)) for name, text in sources().items()}
        defined.update(LIBRARY)
        for name, text, tree in parsed():
            for node in ast.walk(tree):
                if isinstance(node, ast.ImportFrom):
                    self.assertEqual(node.level, 0, name)
                    for alias in node.names:
                        self.assertIn(alias.name, defined[node.module], name)

    def test_names_are_bound_once(self):
        for name, text, tree in parsed():
            names = defined_in(tree)
            for node in tree.body:
                if isinstance(node, ast.ImportFrom):
                    names += [alias.asname or alias.name for alias in node.names]
            self.assertEqual(len(names), len(set(names)), name)

    def test_names_in_functions_are_not_those_of_imports_classes_and_builtins(self):
        for name, text, tree in parsed():
            taken = set(dir(builtins))
            for node in tree.body:
                if isinstance(node, ast.ImportFrom):
                    taken.update(alias.asname or alias.name for alias in node.names)
                if isinstance(node, ast.ClassDef):
                    taken.add(node.name)
            for node in ast.walk(tree):
                if isinstance(node, ast.arg):
                    self.assertNotIn(node.arg, taken, name)
                if isinstance(node, ast.Name) and isinstance(node.ctx, ast.Store):
                    self.assertNotIn(node.id, taken, name)

    def test_no_other_builtins_are_used(self):
        for name, text, tree in parsed():
            bound = set(defined_in(tree))
            for node in ast.walk(tree):
                if isinstance(node, ast.ImportFrom):
                    bound.update(alias.name for alias in node.names)
                if isinstance(node, ast.arg):
                    bound.add(node.arg)
                if isinstance(node, ast.Name) and isinstance(node.ctx, ast.Store):
                    bound.add(node.id)
                if isinstance(node, ast.MatchAs):
                    bound.add(node.name)
            used = {node.id for node in ast.walk(tree) if isinstance(node, ast.Name)}
            self.assertLessEqual(used - bound, BUILTINS, name)

    def test_no_other_methods_are_called(self):
        for name, text, tree in parsed():
            own = {node.name for node in ast.walk(tree) if isinstance(node, ast.FunctionDef)} | {"__init__"}
            for node in ast.walk(tree):
                if isinstance(node, ast.Call) and isinstance(node.func, ast.Attribute):
                    self.assertIn(node.func.attr, METHODS | own, name)

    def test_is_stands_beside_none_true_and_false(self):
        for name, text, tree in parsed():
            for node in ast.walk(tree):
                if isinstance(node, ast.Compare):
                    for sign, other in zip(node.ops, node.comparators):
                        if isinstance(sign, (ast.Is, ast.IsNot)):
                            self.assertIn(ast.unparse(other), ("None", "True", "False"), name)

    def test_loops_do_not_change_what_they_go_over(self):
        changing = {"append", "pop", "extend", "remove", "insert", "clear", "setdefault", "update", "reverse"}
        for name, text, tree in parsed():
            for loop in [node for node in ast.walk(tree) if isinstance(node, ast.For)]:
                named = [node for node in ast.walk(loop.iter) if isinstance(node, (ast.Name, ast.Attribute))]
                over = {ast.unparse(node) for node in named}
                for node in [node for row in loop.body + loop.orelse for node in ast.walk(row)]:
                    if isinstance(node, ast.Call) and isinstance(node.func, ast.Attribute):
                        if node.func.attr in changing:
                            self.assertNotIn(ast.unparse(node.func.value), over, name)
                    if isinstance(node, ast.Subscript) and not isinstance(node.ctx, ast.Load):
                        self.assertNotIn(ast.unparse(node.value), over, name)

    def test_words_that_are_not_used(self):
        words = re.compile(r"\b(register|mro|elements|open|input|law|eval|exec|print|global|async|chr|type)\b")
        for name, text, tree in parsed():
            for node in ast.walk(tree):
                for word in (getattr(node, "id", ""), getattr(node, "arg", ""), getattr(node, "attr", ""),
                             getattr(node, "name", "")):
                    self.assertIsNone(words.fullmatch(word or ""), f"{word} in {name}")


if __name__ == "__main__":
    unittest.main()
