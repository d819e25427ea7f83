"""What of the language's rules can be seen at a glance: sizes, signs, imports, names and builtins."""

import ast
import builtins
import sys
import unittest
from pathlib import Path

PACKAGE = Path(__file__).resolve().parent.parent / "pairmart"

BUILTINS = set("""
    len range enumerate zip min max sum abs sorted reversed int str bool list tuple dict set isinstance ord repr any
    all divmod ValueError
""".split())

METHODS = set("""
    append clear copy count endswith extend find get index insert items join keys partition pop remove replace reverse
    rpartition setdefault split startswith strip update values
""".split())

BARRED = set("""
    register mro elements open input law type typing enum Enum Generic Protocol ABC namedtuple dataclass overload
    global eval exec compile id vars dir hash next iter map filter round
""".split())

LIBRARY = {"math": {"gcd"}}

STATEMENTS = (
    ast.Assign, ast.AugAssign, ast.If, ast.While, ast.For, ast.Return, ast.Break, ast.Continue, ast.Pass, ast.Raise,
    ast.Assert, ast.Delete, ast.Expr, ast.FunctionDef, ast.Try,
)


class Language(unittest.TestCase):

    def setUp(self):
        self.texts = {path: path.read_text(encoding="utf-8") for path in sorted(PACKAGE.glob("*.py"))}
        self.trees = {path: ast.parse(text) for path, text in self.texts.items()}
        self.own = {node.name for tree in self.trees.values() for node in ast.walk(tree)
                    if isinstance(node, (ast.FunctionDef, ast.ClassDef))}

    def nodes(self, *kinds):
        return [(path, node) for path, tree in self.trees.items() for node in ast.walk(tree) if isinstance(node, kinds)]

    def test_the_folder_holds_plain_files_alone(self):
        for path in PACKAGE.iterdir():
            if path.name != "__pycache__":
                self.assertTrue(path.is_file() and path.suffix == ".py", path)
                self.assertEqual(path.name, path.name.lower())
                if path.stem != "__init__":
                    self.assertNotIn(path.stem, set(sys.stdlib_module_names) | set(dir(builtins)))

    def test_sizes_and_signs(self):
        for path, text in self.texts.items():
            lines = text.split("\n")
            self.assertLessEqual(len(lines), 400, path)
            self.assertLessEqual(max(map(len, lines)), 120, path)
            self.assertTrue(all(sign == "\n" or " " <= sign <= "~" for sign in text), path)
        for path, node in self.nodes(ast.FunctionDef):
            self.assertLessEqual(node.end_lineno - node.lineno + 1, 40, (path, node.name))

    def test_imports_name_own_files_that_define_the_names(self):
        for path, node in self.nodes(ast.Import, ast.ImportFrom):
            self.assertIsInstance(node, ast.ImportFrom, path)
            if node.module in LIBRARY:
                self.assertLessEqual({name.name for name in node.names}, LIBRARY[node.module], path)
                self.assertTrue(all(name.asname is None for name in node.names), path)
                continue
            package, _, stem = node.module.partition(".")
            self.assertEqual((package, node.level), ("pairmart", 0), path)
            bound = {one.name for one in self.trees[PACKAGE / f"{stem}.py"].body
                     if isinstance(one, (ast.FunctionDef, ast.ClassDef))}
            bound |= {target.id for one in self.trees[PACKAGE / f"{stem}.py"].body if isinstance(one, ast.Assign)
                      for target in one.targets}
            for name in node.names:
                self.assertIn(name.name, bound, path)
                self.assertIsNone(name.asname, path)

    def test_imports_do_not_go_round(self):
        asks = {path.stem: {node.module.split(".")[1] for node in tree.body
                            if isinstance(node, ast.ImportFrom) and node.module not in LIBRARY}
                for path, tree in self.trees.items()}
        done = []
        while len(done) < len(asks):
            free = [stem for stem in asks if stem not in done and asks[stem] <= set(done)]
            self.assertTrue(free, sorted(set(asks) - set(done)))
            done += free

    def test_statements_and_decorators(self):
        for path, node in self.nodes(ast.FunctionDef):
            self.assertEqual(node.decorator_list, [], path)
            for row in node.body:
                self.assertIsInstance(row, STATEMENTS, (path, row.lineno))
        for path, node in self.nodes(ast.Global, ast.With, ast.Lambda, ast.Set, ast.AnnAssign, ast.Div):
            self.assertIsInstance(node, ast.Lambda, path)

    def test_own_errors_alone_are_caught_and_raised(self):
        errors = {node.name for node in self.trees[PACKAGE / "errors.py"].body if isinstance(node, ast.ClassDef)}
        for path, node in self.nodes(ast.Try):
            self.assertEqual(node.finalbody, [], (path, node.lineno))
        for path, node in self.nodes(ast.ExceptHandler):
            self.assertIsNotNone(node.type, (path, node.lineno))
            caught = node.type.elts if isinstance(node.type, ast.Tuple) else [node.type]
            self.assertLessEqual({one.id for one in caught}, errors, (path, node.lineno))
        for path, node in self.nodes(ast.Raise):
            self.assertIsInstance(node.exc, ast.Call, (path, node.lineno))
            self.assertIn(node.exc.func.id, errors, (path, node.lineno))

    def test_module_level_holds_plain_values_and_is_not_changed(self):
        for path, tree in self.trees.items():
            for node in tree.body:
                if isinstance(node, ast.Assign):
                    self.assertTrue(all(isinstance(one, (ast.Constant, ast.Tuple, ast.Load))
                                        for one in ast.walk(node.value)), (path, node.lineno))
                else:
                    self.assertIsInstance(node, (ast.Expr, ast.ImportFrom, ast.FunctionDef, ast.ClassDef), path)

    def test_strings(self):
        for path, node in self.nodes(ast.Constant):
            if isinstance(node.value, str):
                self.assertFalse(node.value.endswith(("._", ".__")) or chr(37) in node.value, (path, node.lineno))
        for path, node in self.nodes(ast.FormattedValue):
            inner = [one for one in ast.walk(node.value) if isinstance(one, (ast.Constant, ast.JoinedStr))]
            self.assertEqual([one for one in inner if not isinstance(getattr(one, "value", ""), int)], [],
                             (path, node.lineno))

    def test_builtins_and_methods(self):
        for path, node in self.nodes(ast.Name):
            if node.id in dir(builtins):
                self.assertIn(node.id, BUILTINS, (path, node.lineno))
                self.assertIsInstance(node.ctx, ast.Load, (path, node.lineno))
        for path, node in self.nodes(ast.Call):
            if isinstance(node.func, ast.Attribute):
                self.assertIn(node.func.attr, METHODS | self.own, (path, node.lineno))

    def test_names(self):
        for path, node in self.nodes(ast.Name, ast.arg, ast.FunctionDef, ast.ClassDef):
            name = getattr(node, "id", None) or getattr(node, "arg", None) or getattr(node, "name", None)
            self.assertNotIn(name, BARRED, (path, node.lineno))
            self.assertTrue(name == "_" or not name.startswith("_") or name == "__init__", (path, node.lineno))

    def test_locals_do_not_have_the_names_of_imports_and_classes(self):
        for path, tree in self.trees.items():
            taken = {name.name for node in tree.body if isinstance(node, ast.ImportFrom) for name in node.names}
            taken |= {node.name for node in tree.body if isinstance(node, ast.ClassDef)}
            stored = {node.id for node in ast.walk(tree) if isinstance(node, ast.Name)
                      and isinstance(node.ctx, ast.Store)}
            stored |= {node.arg for node in ast.walk(tree) if isinstance(node, ast.arg)}
            self.assertEqual(stored & taken, set(), path)

    def test_is_stands_beside_none_alone(self):
        for path, node in self.nodes(ast.Compare):
            for sign, side in zip(node.ops, node.comparators):
                if isinstance(sign, (ast.Is, ast.IsNot)):
                    self.assertTrue(isinstance(side, ast.Constant) and side.value is None, (path, node.lineno))

    def test_what_is_iterated_at_once_is_not_kept(self):
        for path, node in self.nodes(ast.Assign, ast.Return):
            if isinstance(node.value, ast.Call) and isinstance(node.value.func, ast.Name):
                self.assertNotIn(node.value.func.id, ("zip", "enumerate", "range", "reversed", "set"),
                                 (path, node.lineno))

    def test_imports_are_used(self):
        for path, tree in self.trees.items():
            read = {node.id for node in ast.walk(tree) if isinstance(node, ast.Name)}
            for node in tree.body:
                if isinstance(node, ast.ImportFrom):
                    for name in node.names:
                        self.assertIn(name.name, read, path)


if __name__ == "__main__":
    unittest.main()
