"""Rules of the language in which the package is written, as far as they are easy to see in the code."""

import ast
import builtins
import pathlib
import unittest

FOLDER = pathlib.Path(__file__).resolve().parent.parent / "backrun"

BUILTINS = set("""len range enumerate zip min max sum abs sorted reversed int str bool list tuple dict set isinstance ord
    repr any all divmod Exception ValueError KeyError""".split())

METHODS = set("""append clear copy count endswith extend find get index insert isalnum isalpha isdigit islower isspace
    isupper items join keys ljust lower lstrip partition pop remove replace reverse rfind rjust rpartition rsplit rstrip
    setdefault split splitlines startswith strip update upper values zfill bit_length add discard __init__""".split())

BARRED = set("""register mro elements open input law version_info with_traceback add_note compile copyright dir eval
    exec exit gc globals help id locals os quit super type vars sys license""".split())

STATEMENTS = (ast.FunctionDef, ast.ClassDef, ast.Return, ast.Delete, ast.Assign, ast.AugAssign, ast.For, ast.While,
              ast.If, ast.Raise, ast.Try, ast.Assert, ast.ImportFrom, ast.Expr, ast.Pass, ast.Break, ast.Continue)


def sources():
    return {path.stem: path.read_text("utf-8") for path in sorted(FOLDER.glob("*.py"))}


class Language(unittest.TestCase):
    def setUp(self):
        self.sources = sources()
        self.trees = {word: ast.parse(text) for word, text in self.sources.items()}

    def nodes(self, *kinds):
        for word, tree in self.trees.items():
            for node in ast.walk(tree):
                if isinstance(node, kinds):
                    yield word, node

    def test_files(self):
        self.assertIn("__init__", self.sources)
        for path in FOLDER.iterdir():
            self.assertTrue(path.suffix == ".py" or path.name == "__pycache__", path)

    def test_sizes(self):
        for word, text in self.sources.items():
            lines = text.split("\n")
            self.assertLessEqual(len(lines) - 1, 399, word)
            self.assertLessEqual(max(len(line) for line in lines), 120, word)
            self.assertTrue(all(sign == "\n" or " " <= sign <= "~" for sign in text), word)
        for word, node in self.nodes(ast.FunctionDef):
            self.assertLessEqual(node.end_lineno - node.lineno + 1, 40, (word, node.name))

    def test_statements(self):
        for word, node in self.nodes(ast.stmt):
            self.assertIsInstance(node, STATEMENTS, (word, getattr(node, "lineno", 0)))
        for word, node in self.nodes(ast.FunctionDef, ast.ClassDef):
            self.assertEqual(node.decorator_list, [], (word, node.name))

    def test_imports(self):
        for word, node in self.nodes(ast.ImportFrom):
            self.assertEqual(node.level, 0)
            self.assertTrue(node.module.startswith("backrun."), word)
            home = self.trees[node.module.split(".")[1]]
            defined = {item.name for item in home.body if isinstance(item, (ast.FunctionDef, ast.ClassDef))}
            defined |= {target.id for item in home.body if isinstance(item, ast.Assign) for target in item.targets}
            for alias in node.names:
                self.assertIsNone(alias.asname)
                self.assertIn(alias.name, defined, word)

    def test_no_circle_of_imports(self):
        needs = {word: {node.module.split(".")[1] for node in tree.body if isinstance(node, ast.ImportFrom)}
                 for word, tree in self.trees.items()}
        while needs:
            free = [word for word in needs if not needs[word] & set(needs)]
            self.assertTrue(free, needs)
            for word in free:
                del needs[word]

    def test_names(self):
        for word, node in self.nodes(ast.Name):
            if isinstance(node.ctx, ast.Load):
                self.assertFalse(hasattr(builtins, node.id) and node.id not in BUILTINS, (word, node.id))
            else:
                self.assertFalse(hasattr(builtins, node.id) or node.id in BARRED, (word, node.id))
        for word, node in self.nodes(ast.arg):
            self.assertFalse(hasattr(builtins, node.arg) or node.arg in BARRED, (word, node.arg))
        for word, node in self.nodes(ast.FunctionDef, ast.ClassDef):
            barred = node.name in BARRED or hasattr(builtins, node.name) and node.name != "__init__"
            self.assertFalse(barred, (word, node.name))

    def test_methods(self):
        own = {node.name for _, node in self.nodes(ast.FunctionDef)}
        for word, node in self.nodes(ast.Call):
            if isinstance(node.func, ast.Attribute):
                self.assertIn(node.func.attr, own | METHODS, (word, node.lineno))

    def test_attributes_are_no_methods(self):
        methods = {item.name for _, node in self.nodes(ast.ClassDef) for item in node.body
                   if isinstance(item, ast.FunctionDef)}
        for word, node in self.nodes(ast.Attribute):
            if isinstance(node.ctx, ast.Store):
                self.assertNotIn(node.attr, methods | METHODS, (word, node.lineno))

    def test_strings_and_numbers(self):
        for word, node in self.nodes(ast.Constant):
            if isinstance(node.value, str):
                self.assertNotIn("%", node.value, word)
            self.assertNotIsInstance(node.value, (float, complex, bytes))
        for word, node in self.nodes(ast.Div, ast.Pow, ast.MatMult):
            self.fail((word, node))

    def test_tables_are_only_read(self):
        for word, tree in self.trees.items():
            tables = {item.targets[0].id for item in tree.body
                      if isinstance(item, ast.Assign) and isinstance(item.value, (ast.Dict, ast.List))}
            parents = {child: node for node in ast.walk(tree) for child in ast.iter_child_nodes(node)}
            for node in ast.walk(tree):
                if isinstance(node, ast.Name) and node.id in tables and isinstance(node.ctx, ast.Load):
                    self.assertIsInstance(parents[node], (ast.Subscript, ast.Attribute, ast.Compare), (word, node.id))

    def test_imports_are_not_named_again(self):
        for word, tree in self.trees.items():
            barred = {alias.name for node in tree.body if isinstance(node, ast.ImportFrom) for alias in node.names}
            barred |= {node.name for node in tree.body if isinstance(node, ast.ClassDef)}
            for node in ast.walk(tree):
                if isinstance(node, ast.Name) and not isinstance(node.ctx, ast.Load):
                    self.assertNotIn(node.id, barred, word)
                if isinstance(node, ast.arg):
                    self.assertNotIn(node.arg, barred, word)
