"""Some of the rules for the files of the package that a look at their text can tell."""

import ast
import builtins
import unittest
from pathlib import Path

FOLDER = Path(__file__).resolve().parent.parent / "wordshapes"
FILES = sorted(FOLDER.glob("*.py"))
CALLED = {
    "len", "range", "enumerate", "zip", "min", "max", "sum", "abs", "sorted", "reversed", "int", "str", "bool", "list", "tuple",
    "dict", "set", "isinstance", "ord", "repr", "any", "all", "divmod", "map", "iter", "next", "staticmethod", "classmethod",
}
RAISED = {"ValueError", "LookupError", "ArithmeticError", "TypeError"}
METHODS = {
    "append", "clear", "copy", "count", "endswith", "extend", "find", "get", "index", "insert", "isdigit", "items", "join",
    "keys", "partition", "pop", "remove", "replace", "reverse", "setdefault", "split", "startswith", "strip", "update", "values",
}
BARRED = (
    ast.Global, ast.AsyncFunctionDef, ast.Yield, ast.YieldFrom, ast.Div, ast.SetComp, ast.Set, ast.GeneratorExp, ast.AnnAssign, ast.Delete,
    ast.NamedExpr, ast.Match,
)
SPECIAL = {
    "__init__", "__eq__", "__repr__", "__bool__", "__add__", "__sub__", "__mul__", "__enter__", "__exit__", "__setitem__", "__getitem__", "__iter__",
    "__contains__", "__len__",
}
# Names that stand for what is used up or changes: they are iterated on the spot, or not at all.
ITERATED = {"zip", "enumerate", "range", "reversed"}


def bound_names(tree):
    """The names of parameters, variables, functions and classes."""
    for node in ast.walk(tree):
        if isinstance(node, ast.arg):
            yield node.arg
        elif isinstance(node, ast.Name) and not isinstance(node.ctx, ast.Load):
            yield node.id
        elif isinstance(node, (ast.FunctionDef, ast.ClassDef)):
            yield node.name


class Language(unittest.TestCase):
    def trees(self):
        for file in FILES:
            yield file.name, ast.parse(file.read_text())

    def test_the_folder_holds_plain_files(self):
        found = [path.name for path in FOLDER.iterdir() if path.name != "__pycache__"]
        self.assertEqual(sorted(found), [file.name for file in FILES])
        self.assertIn("__init__.py", found)

    def test_lines_and_files(self):
        for file in FILES:
            text = file.read_bytes()
            self.assertFalse([byte for byte in text if byte != 10 and not 32 <= byte <= 126], file.name)
            lines = text.decode().split("\n")
            self.assertLess(len(lines), 400, file.name)
            self.assertLessEqual(max(map(len, lines)), 120, file.name)

    def test_functions(self):
        for name, tree in self.trees():
            for node in ast.walk(tree):
                if isinstance(node, ast.FunctionDef):
                    self.assertLessEqual(node.end_lineno - node.lineno + 1, 40, (name, node.name))
                    self.assertTrue(not node.name.startswith("__") or node.name in SPECIAL, (name, node.name))
                self.assertNotIsInstance(node, BARRED, (name, getattr(node, "lineno", None)))

    def test_imports(self):
        for name, tree in self.trees():
            own = set()
            for node in tree.body:
                if isinstance(node, ast.ImportFrom):
                    self.assertTrue(node.module == "math" or node.module.startswith("wordshapes."), name)
                    self.assertFalse([alias for alias in node.names if alias.asname], name)
                    own |= {alias.name for alias in node.names}
            imported = [node for node in ast.walk(tree) if isinstance(node, (ast.Import, ast.ImportFrom))]
            self.assertEqual(len(imported), len([node for node in tree.body if isinstance(node, ast.ImportFrom)]), name)
            classes = {node.name for node in tree.body if isinstance(node, ast.ClassDef)}
            bound = list(bound_names(tree))
            self.assertFalse(own & set(bound), name)
            self.assertEqual([bound.count(each) for each in sorted(classes)], [1] * len(classes), name)
            used = {node.id for node in ast.walk(tree) if isinstance(node, ast.Name)}
            self.assertLessEqual(own, used, name)

    def test_names_come_from_the_files_that_define_them(self):
        trees = dict(self.trees())
        defined = {
            name: {node.name for node in tree.body if isinstance(node, (ast.FunctionDef, ast.ClassDef))}
            | {target.id for node in tree.body if isinstance(node, ast.Assign) for target in node.targets}
            for name, tree in trees.items()
        }
        needs = {}
        for name, tree in trees.items():
            sources = [node for node in tree.body if isinstance(node, ast.ImportFrom) and node.module != "math"]
            for node in sources:
                self.assertLessEqual({alias.name for alias in node.names}, defined[node.module.removeprefix("wordshapes.") + ".py"], name)
            needs[name] = {node.module.removeprefix("wordshapes.") + ".py" for node in sources}
        while needs:
            free = [name for name, others in needs.items() if not others & set(needs)]
            self.assertTrue(free, needs)
            needs = {name: others for name, others in needs.items() if name not in free}

    def test_trials_and_errors(self):
        for name, tree in self.trees():
            for node in ast.walk(tree):
                if isinstance(node, ast.ExceptHandler):
                    self.assertLessEqual({each.id for each in node.type.elts}, {"WrongValue", "WrongName", "NoAnswer"}, name)
                if isinstance(node, ast.Try):
                    self.assertEqual([node.finalbody, node.orelse], [[], []], name)
                if isinstance(node, ast.With):
                    self.assertEqual([ast.unparse(item.context_expr) for item in node.items], ["self.trial()"], name)
                if isinstance(node, ast.FunctionDef) and node.name == "__exit__":
                    for row in node.body:
                        self.assertIsInstance(row, ast.Assign)
                        self.assertIsInstance(row.value, ast.Attribute)
                        self.assertIsInstance(row.targets[0], ast.Attribute)
                if isinstance(node, ast.Raise) and node.exc is not None:
                    self.assertIsInstance(node.exc, ast.Call)

    def test_methods_and_attributes(self):
        for name, tree in self.trees():
            for node in [node for node in tree.body if isinstance(node, ast.ClassDef)]:
                methods = [each.name for each in node.body if isinstance(each, ast.FunctionDef)]
                stored = {each.attr for each in ast.walk(node) if isinstance(each, ast.Attribute) and isinstance(each.ctx, ast.Store)}
                self.assertEqual([len(set(methods)), set(methods) & stored], [len(methods), set()], (name, node.name))
                self.assertFalse({"keys", "items", "values", "pop", "update", "sort", "args"} & (stored | set(methods)), name)

    def test_what_is_used_up_is_iterated_on_the_spot(self):
        for name, tree in self.trees():
            for node in ast.walk(tree):
                if isinstance(node, ast.Assign) and isinstance(node.value, ast.Call) and isinstance(node.value.func, ast.Name):
                    self.assertNotIn(node.value.func.id, ITERATED, (name, node.lineno))
                if isinstance(node, ast.Return) and isinstance(node.value, ast.Call) and isinstance(node.value.func, ast.Name):
                    self.assertNotIn(node.value.func.id, ITERATED, (name, node.lineno))

    def test_names(self):
        for name, tree in self.trees():
            bound = set(bound_names(tree))
            self.assertFalse(bound & set(dir(builtins)), name)
            self.assertFalse(bound & {"register", "elements", "open", "input", "law", "mro"}, name)

    def test_builtins_and_methods(self):
        own = {node.name for _, tree in self.trees() for node in ast.walk(tree) if isinstance(node, ast.FunctionDef)}
        for name, tree in self.trees():
            for node in ast.walk(tree):
                if isinstance(node, ast.Name) and node.id in dir(builtins):
                    self.assertIn(node.id, CALLED | RAISED, name)
                if isinstance(node, ast.Call) and isinstance(node.func, ast.Attribute):
                    self.assertIn(node.func.attr, METHODS | own, name)
                if isinstance(node, ast.Constant):
                    self.assertNotIsInstance(node.value, (float, complex), name)
                    self.assertFalse(isinstance(node.value, str) and "%" in node.value, name)
                if isinstance(node, ast.BinOp) and isinstance(node.op, ast.Pow):
                    self.assertIsInstance(node.right, ast.Constant, name)
                if isinstance(node, ast.Compare) and isinstance(node.ops[0], (ast.Is, ast.IsNot)):
                    self.assertIsNone(node.comparators[0].value, name)


if __name__ == "__main__":
    unittest.main()
