"""The rules of the language subset that can be looked up: files, sizes, imports, names, signs."""

import ast
import builtins
import pathlib
import re
import tokenize
import unittest

PACKAGE = pathlib.Path(__file__).resolve().parent.parent / "quickbythen"
FILES = sorted(PACKAGE.glob("*.py"))
CALLED = {"len", "range", "enumerate", "zip", "min", "max", "sum", "abs", "sorted", "reversed", "int", "str", "bool",
          "list", "tuple", "dict", "set", "isinstance", "ord", "repr", "any", "all", "divmod", "ValueError"}
METHODS = {"append", "clear", "copy", "count", "endswith", "extend", "find", "get", "index", "insert", "isalnum",
           "isalpha", "isdigit", "islower", "items", "join", "keys", "pop", "remove", "replace", "reverse", "split",
           "splitlines", "lstrip", "startswith", "strip", "update", "values", "add", "discard", "setdefault"}
LIBRARY = {"math": ["gcd"], "itertools": ["combinations"]}
BARRED = {"type", "typing", "enum", "Enum", "Generic", "Protocol", "ABC", "namedtuple", "dataclass", "overload",
          "abstractmethod", "contextmanager", "register", "mro", "elements", "open", "input", "law", "float"}
STATEMENTS = (ast.Global, ast.AsyncFunctionDef, ast.AsyncFor, ast.AsyncWith, ast.Await, ast.Yield, ast.YieldFrom,
              ast.Match, ast.With, ast.NamedExpr, ast.AnnAssign, ast.Lambda, ast.Div)


def parents_of(tree):
    return {id(child): node for node in ast.walk(tree) for child in ast.iter_child_nodes(node)}


def bound_names(function):
    """The parameters and local variables of a function."""
    found = {one.arg for one in function.args.args}
    for node in ast.walk(function):
        if isinstance(node, ast.Name) and isinstance(node.ctx, ast.Store):
            found.add(node.id)
    return found


class LanguageTest(unittest.TestCase):
    def setUp(self):
        self.trees = {path: ast.parse(path.read_text()) for path in FILES}

    def each(self, *kinds):
        for path, tree in self.trees.items():
            for node in ast.walk(tree):
                if isinstance(node, kinds):
                    yield path.name, node

    def test_files(self):
        self.assertIn(PACKAGE / "__init__.py", FILES)
        for path in PACKAGE.iterdir():
            if path.name != "__pycache__":
                self.assertTrue(re.fullmatch(r"[a-z0-9_]+\.py", path.name), path.name)
        self.assertLessEqual(len(FILES), 100)

    def test_sizes_and_characters(self):
        for path in FILES:
            text = path.read_text()
            self.assertLessEqual(text.count("\n"), 399, path.name)
            self.assertTrue(text.endswith("\n"))
            for line in text.split("\n"):
                self.assertLessEqual(len(line), 120, path.name + ": " + line)
                self.assertTrue(all([" " <= sign <= "~" for sign in line]), path.name + ": " + line)
        for name, node in self.each(ast.FunctionDef):
            self.assertLessEqual(node.end_lineno - node.lineno + 1, 40, name + ": " + node.name)

    def test_module_level(self):
        for path, tree in self.trees.items():
            for node in tree.body:
                if isinstance(node, ast.Expr):
                    self.assertIsInstance(node.value, ast.Constant)
                    self.assertIs(node, tree.body[0])
                    continue
                self.assertIsInstance(node, (ast.ImportFrom, ast.FunctionDef, ast.ClassDef, ast.Assign), path.name)
                if isinstance(node, ast.Assign):
                    ast.literal_eval(node.value)
                    self.assertEqual(len(node.targets), 1)
                    self.assertIsInstance(node.targets[0], ast.Name)

    def test_imports(self):
        defined = {path.stem: {node.name for node in tree.body if isinstance(node, (ast.FunctionDef, ast.ClassDef))}
                   | {node.targets[0].id for node in tree.body if isinstance(node, ast.Assign)}
                   for path, tree in self.trees.items()}
        needs = {path.stem: set() for path in FILES}
        for path, tree in self.trees.items():
            for node in ast.walk(tree):
                self.assertNotIsInstance(node, ast.Import)
                if not isinstance(node, ast.ImportFrom):
                    continue
                self.assertIn(node, tree.body)
                self.assertEqual(node.level, 0)
                names = [one.name for one in node.names]
                self.assertTrue(all([one.asname is None for one in node.names]))
                if node.module in LIBRARY:
                    self.assertEqual(names, LIBRARY[node.module])
                    continue
                package, name = node.module.split(".")
                self.assertEqual(package, "quickbythen")
                self.assertLessEqual(set(names), defined[name], path.name)
                needs[path.stem].add(name)
        while needs:
            free = [name for name in needs if not needs[name]]
            self.assertTrue(free, "files import from each other: " + str(sorted(needs)))
            needs = {name: needs[name] - set(free) for name in needs if name not in free}

    def test_names_bound_once_and_used(self):
        for path, tree in self.trees.items():
            imported = [one.name for node in tree.body if isinstance(node, ast.ImportFrom) for one in node.names]
            made = [node.name for node in tree.body if isinstance(node, (ast.FunctionDef, ast.ClassDef))]
            values = [node.targets[0].id for node in tree.body if isinstance(node, ast.Assign)]
            names = imported + made + values
            self.assertEqual(len(names), len(set(names)), path.name)
            read = {node.id for node in ast.walk(tree) if isinstance(node, ast.Name)}
            self.assertEqual(set(imported) - read, set(), path.name)
            local = set()
            for node in ast.walk(tree):
                if isinstance(node, ast.FunctionDef):
                    local |= bound_names(node)
            self.assertEqual(local & set(names), set(), path.name)
            self.assertEqual((local | set(names)) & set(dir(builtins)) - {"_"}, set(), path.name)

    def test_statements_and_signs(self):
        for name, node in self.each(*STATEMENTS):
            self.fail(name + ": " + ast.dump(node)[:80])
        for name, node in self.each(ast.FunctionDef):
            self.assertEqual(node.decorator_list, [], name)
            self.assertIsNone(node.returns)
            self.assertIsNone(node.args.vararg or node.args.kwarg)
            self.assertEqual(node.args.defaults + node.args.kwonlyargs, [])
        for name, node in self.each(ast.Compare):
            for sign, other in zip(node.ops, node.comparators):
                if isinstance(sign, (ast.Is, ast.IsNot)):
                    self.assertIsInstance(other, ast.Constant, name)
        for name, node in self.each(ast.Constant):
            self.assertNotIsInstance(node.value, (float, complex), name)
            if isinstance(node.value, str):
                self.assertNotIn("%", node.value)
                self.assertNotIn("\\", node.value)
        for name, node in self.each(ast.Starred, ast.GeneratorExp):
            self.fail(name + ": " + str(node.lineno))

    def test_builtins_and_methods(self):
        own = {node.name for _, node in self.each(ast.FunctionDef)}
        for name, node in self.each(ast.Name):
            if hasattr(builtins, node.id) and node.id != "_":
                self.assertIn(node.id, CALLED, name)
        for name, node in self.each(ast.Call):
            self.assertEqual([one.arg for one in node.keywords if one.arg is None], [], name)
            if isinstance(node.func, ast.Attribute):
                self.assertIn(node.func.attr, METHODS | own, name)

    def test_sets_stand_where_they_may(self):
        for path, tree in self.trees.items():
            parents = parents_of(tree)
            for node in ast.walk(tree):
                self.assertNotIsInstance(node, (ast.Set, ast.SetComp))
                if isinstance(node, ast.Call) and isinstance(node.func, ast.Name) and node.func.id == "set":
                    parent = parents[id(node)]
                    is_kept = isinstance(parent, ast.Assign)
                    is_read = isinstance(parent, ast.Call) and parent.func.id in ("sorted", "len")
                    self.assertTrue(is_kept or is_read, path.name)

    def test_iterated_at_once(self):
        """No range, zip and the like is kept; what a loop goes over is not changed in it, as far as names tell."""
        for name, node in self.each(ast.Assign, ast.Return):
            if isinstance(node.value, ast.Call) and isinstance(node.value.func, ast.Name):
                self.assertNotIn(node.value.func.id, ("range", "zip", "enumerate", "reversed", "combinations"), name)
            if isinstance(node.value, ast.Call) and isinstance(node.value.func, ast.Attribute):
                self.assertNotIn(node.value.func.attr, ("items", "values"), name)
        for name, node in self.each(ast.For):
            gone_over = ast.unparse(node.iter)
            for inner in [one for row in node.body for one in ast.walk(row)]:
                if isinstance(inner, ast.Call) and isinstance(inner.func, ast.Attribute):
                    if inner.func.attr in ("append", "pop", "remove", "insert", "extend", "clear", "setdefault", "update"):
                        self.assertNotEqual(ast.unparse(inner.func.value), gone_over, name + ": " + gone_over)
                if isinstance(inner, ast.Subscript) and isinstance(inner.ctx, ast.Store):
                    held = [gone_over, gone_over.replace("enumerate(", "").rstrip(")")]
                    self.assertNotIn(ast.unparse(inner.value), held, name + ": " + gone_over)

    def test_strings_in_braces(self):
        for name, node in self.each(ast.FormattedValue):
            self.assertIsNone(node.format_spec, name)
            self.assertEqual([one for one in ast.walk(node.value) if isinstance(one, ast.Constant)
                              and isinstance(one.value, str)], [], name)

    def test_tries(self):
        for name, node in self.each(ast.Try):
            self.assertEqual(node.handlers + node.orelse, [], name)
            for row in node.finalbody:
                self.assertIsInstance(row, ast.Assign, name)
                self.assertTrue(all([isinstance(one, ast.Attribute) for one in row.targets]), name)
                self.assertIsInstance(row.value, ast.Name, name)

    def test_raised_on_the_spot(self):
        for name, node in self.each(ast.Raise):
            self.assertIsInstance(node.exc, ast.Call, name)
            self.assertTrue(node.exc.func.id[0].isupper(), name)

    def test_words(self):
        for path in FILES:
            with open(path, "rb") as file:
                for token in tokenize.tokenize(file.readline):
                    if token.type == tokenize.NAME:
                        self.assertNotIn(token.string, BARRED, path.name)
                        self.assertFalse(token.string.startswith("_wall"), path.name)

    def test_documented(self):
        for name, node in self.each(ast.Module, ast.ClassDef):
            self.assertIsNotNone(ast.get_docstring(node), name)
        for name, node in self.each(ast.FunctionDef):
            if not node.name.startswith("__"):
                self.assertIsNotNone(ast.get_docstring(node), name + ": " + node.name)


if __name__ == "__main__":
    unittest.main()
