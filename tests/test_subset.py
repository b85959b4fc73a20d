"""The files of the package keep to a small subset of Python; this looks at the rules that are easy to see."""

import ast
import pathlib
import re
import unittest

PACKAGE = pathlib.Path(__file__).resolve().parent.parent / "loancheck"
FILES = sorted(PACKAGE.glob("*.py"))
BUILTINS = (
    "len range enumerate zip min max sum abs sorted reversed int str bool bytes list tuple dict set frozenset "
    "isinstance ord repr any all divmod pow iter next Exception ValueError TypeError KeyError IndexError LookupError"
).split()
METHODS = (
    "append clear copy count endswith extend find get index insert isalnum isalpha isdigit islower isspace isupper "
    "items join keys ljust lower lstrip partition pop remove replace reverse rfind rjust rpartition rsplit rstrip "
    "setdefault split splitlines startswith strip update upper values zfill bit_length __init__"
).split()
BARRED_NODES = (
    ast.AsyncFunctionDef, ast.Await, ast.Global, ast.Import, ast.Try, ast.Set, ast.Lambda,
    ast.GeneratorExp, ast.NamedExpr, ast.Yield, ast.YieldFrom, ast.With, ast.Div,
)
BARRED_WORDS = (
    r"\b(type|typing|enum|Enum|Flag|Generic|Protocol|ABC|namedtuple|NamedTuple|TypedDict|abstractmethod"
    r"|register|mro|elements|open|input|law)\b"
)


def own_names(tree):
    return {node.name for node in ast.walk(tree) if isinstance(node, (ast.FunctionDef, ast.ClassDef))}


class Subset(unittest.TestCase):
    def setUp(self):
        self.trees = {path.name: ast.parse(path.read_text(encoding="ascii")) for path in FILES}
        self.own = set().union(*[own_names(tree) for tree in self.trees.values()])

    def nodes(self, *kinds):
        for name, tree in self.trees.items():
            for node in ast.walk(tree):
                if isinstance(node, kinds):
                    yield name, node

    def test_the_package_has_its_files(self):
        names = {path.name for path in FILES}
        landed = (
            "errors reading writing rules graphs states runs summaries facts check shortest papers cells machine"
            " workspace journal"
        ).split()
        self.assertTrue({"__init__.py"} | {name + ".py" for name in landed} <= names)

    def test_sizes(self):
        for path in FILES:
            lines = path.read_text(encoding="ascii").split("\n")
            self.assertLessEqual(len(lines), 399, path.name)
            for line in lines:
                self.assertLessEqual(len(line), 120, (path.name, line))
                self.assertIsNone(re.search(r"[^ -~]", line), (path.name, line))
        for name, node in self.nodes(ast.FunctionDef):
            self.assertLessEqual(node.end_lineno - node.lineno + 1, 40, (name, node.name))

    def test_imports(self):
        for name, node in self.nodes(ast.ImportFrom):
            self.assertEqual(node.level, 0, name)
            self.assertTrue(node.module.startswith("loancheck."), (name, node.module))
            target = self.trees[node.module.split(".")[1] + ".py"]
            defined = {part.name for part in target.body if isinstance(part, (ast.FunctionDef, ast.ClassDef))}
            defined |= {part.targets[0].id for part in target.body if isinstance(part, ast.Assign)}
            for alias in node.names:
                self.assertIn(alias.name, defined, (name, alias.name))

    def test_no_files_import_each_other(self):
        needs = {name: set() for name in self.trees}
        for name, node in self.nodes(ast.ImportFrom):
            needs[name].add(node.module.split(".")[1] + ".py")
        while needs:
            free = [name for name in needs if not needs[name] & set(needs)]
            self.assertTrue(free, needs)
            for name in free:
                del needs[name]

    def test_statements_and_expressions(self):
        for name, node in self.nodes(*BARRED_NODES):
            if isinstance(node, ast.Try):
                for handler in node.handlers:
                    self.assertIsNotNone(handler.type, name)
            else:
                self.fail((name, node.lineno, type(node).__name__))
        for name, node in self.nodes(ast.FunctionDef, ast.ClassDef):
            self.assertEqual(node.decorator_list, [], (name, node.name))

    def test_builtins_and_methods(self):
        # A function may be passed to another one, which calls its parameter.
        passed = {"behind"}
        for name, node in self.nodes(ast.Call):
            if isinstance(node.func, ast.Name):
                self.assertIn(node.func.id, set(BUILTINS) | self.own | passed, (name, node.lineno))
            elif isinstance(node.func, ast.Attribute):
                self.assertIn(node.func.attr, set(METHODS) | self.own, (name, node.lineno))
            else:
                self.fail((name, node.lineno))

    def test_words(self):
        for name, node in self.nodes(ast.Constant):
            if isinstance(node.value, str):
                self.assertNotIn("%", node.value, (name, node.lineno))
        for path in FILES:
            tree = ast.parse(path.read_text(encoding="ascii"))
            for node in ast.walk(tree):
                if isinstance(node, (ast.Module, ast.FunctionDef, ast.ClassDef)) and ast.get_docstring(node):
                    node.body = node.body[1:]
            self.assertIsNone(re.search(BARRED_WORDS, ast.unparse(tree)), path.name)

    def test_no_name_of_a_builtin_is_given_another_meaning(self):
        known = set(dir(__builtins__) if not isinstance(__builtins__, dict) else __builtins__)
        for name, node in self.nodes(ast.Name, ast.arg, ast.FunctionDef, ast.ClassDef):
            if isinstance(node, ast.Name) and not isinstance(node.ctx, ast.Store):
                continue
            word = getattr(node, "id", None) or getattr(node, "arg", None) or getattr(node, "name", None)
            # A shell, or a doctest, makes a builtin of "_", which is none.
            if word != "_" and not word.startswith("__"):
                self.assertNotIn(word, known, (name, node.lineno))

    def test_no_name_of_an_import_or_a_class_is_given_another_meaning(self):
        for name, tree in self.trees.items():
            known = {node.name for node in tree.body if isinstance(node, ast.ClassDef)}
            for node in tree.body:
                if isinstance(node, ast.ImportFrom):
                    known |= {alias.name for alias in node.names}
            for node in ast.walk(tree):
                if isinstance(node, ast.arg):
                    self.assertNotIn(node.arg, known, (name, node.lineno))
                if isinstance(node, ast.Name) and isinstance(node.ctx, ast.Store):
                    self.assertNotIn(node.id, known, (name, node.lineno))

    def test_attributes_and_methods_have_names_of_their_own(self):
        stored = {node.attr for name, node in self.nodes(ast.Attribute) if isinstance(node.ctx, ast.Store)}
        methods = set()
        for name, node in self.nodes(ast.ClassDef):
            methods |= {part.name for part in node.body if isinstance(part, ast.FunctionDef)}
        self.assertEqual(stored & methods, set())
        read = {node.attr for name, node in self.nodes(ast.Attribute) if isinstance(node.ctx, ast.Load)}
        self.assertEqual(read - stored - methods - set(METHODS), set())


if __name__ == "__main__":
    unittest.main()
