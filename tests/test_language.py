"""The files of the package keep to the main rules of the language that they are written in."""

import ast
import builtins
import unittest
from pathlib import Path

PACKAGE = Path(__file__).resolve().parent.parent / "restwise"
FILES = sorted(PACKAGE.rglob("*.py"))
BUILTINS = set("""len range enumerate zip min max sum abs sorted reversed int str bool bytes list tuple dict set frozenset
    isinstance ord repr any all divmod pow getattr hasattr setattr iter next type super property staticmethod classmethod
    Exception ValueError TypeError KeyError IndexError LookupError ZeroDivisionError ArithmeticError OverflowError
    RuntimeError NotImplementedError StopIteration NotImplemented""".split())
LIBRARY = {"heapq", "math", "itertools", "collections"}
SPECIAL = set("""__init__ __eq__ __repr__ __str__ __len__ __enter__ __exit__ __call__ __iter__ __lt__ __le__ __gt__ __ge__
    __ne__ __add__ __sub__ __mul__ __and__ __or__ __xor__ __neg__ __invert__ __bool__ __contains__ __getitem__""".split())
BARRED = set("""mro elements open input law version_info with_traceback add_note register typing enum Enum Generic Protocol
    ABC namedtuple abstractmethod eval exec exit globals locals vars dir compile""".split())
TAKING_LISTS = {"any", "all", "min", "max", "sum", "sorted"}


def parsed(path):
    return ast.parse(path.read_text(encoding="utf-8"))


def nodes_of(kinds):
    for path in FILES:
        for node in ast.walk(parsed(path)):
            if isinstance(node, kinds):
                yield f"{path.name}:{getattr(node, 'lineno', 0)}", node


class Files(unittest.TestCase):
    def test_the_folder_holds_nothing_else(self):
        for path in PACKAGE.rglob("*"):
            if path.name != "__pycache__" and path.parent.name != "__pycache__":
                self.assertTrue(path.is_dir() or path.suffix == ".py", path)
                self.assertEqual(path.name, path.name.lower())
                self.assertFalse(path.name.startswith("test"), path)
            if path.is_dir() and path.name != "__pycache__":
                self.assertTrue((path / "__init__.py").exists(), path)
                self.assertFalse(path.with_suffix(".py").exists(), path)

    def test_sizes_and_characters(self):
        for path in FILES:
            lines = path.read_text(encoding="utf-8").split("\n")
            self.assertLessEqual(len(lines), 399, path)
            for line in lines:
                self.assertLessEqual(len(line), 120, path)
                self.assertTrue(all(" " <= sign <= "~" for sign in line), (path, line))
        for where, node in nodes_of(ast.FunctionDef):
            self.assertLessEqual(node.end_lineno - node.lineno + 1, 40, where)

    def test_imports(self):
        for where, node in nodes_of((ast.Import, ast.ImportFrom)):
            self.assertIsInstance(node, ast.ImportFrom, where)
            self.assertEqual(node.level, 0, where)
            self.assertTrue(node.module.split(".")[0] == "restwise" or node.module in LIBRARY, where)
            for name in node.names:
                self.assertIsNone(name.asname, where)
                if node.module.startswith("restwise"):
                    source = PACKAGE.parent.joinpath(*node.module.split(".")).with_suffix(".py")
                    bound = [item.name for item in parsed(source).body if hasattr(item, "name")]
                    bound += [item.targets[0].id for item in parsed(source).body if isinstance(item, ast.Assign)]
                    self.assertIn(name.name, bound, where)

    def test_module_level(self):
        for path in FILES:
            body = parsed(path).body
            self.assertIsNotNone(ast.get_docstring(parsed(path)), path)
            for node in body[1:]:
                self.assertIsInstance(node, (ast.ImportFrom, ast.Assign, ast.FunctionDef, ast.ClassDef), path)
            bound = [node.name for node in body if hasattr(node, "name")]
            bound += [alias.name for node in body if isinstance(node, ast.ImportFrom) for alias in node.names]
            bound += [target.id for node in body if isinstance(node, ast.Assign) for target in node.targets]
            self.assertEqual(len(bound), len(set(bound)), path)


class Statements(unittest.TestCase):
    def test_statements_and_expressions(self):
        barred = (ast.AsyncFunctionDef, ast.AsyncFor, ast.AsyncWith, ast.Await, ast.Global, ast.AnnAssign, ast.Div,
                  ast.Import, ast.MatMult)
        for where, node in nodes_of(barred):
            self.fail(f"{where}: {node}")

    def test_functions(self):
        for where, node in nodes_of(ast.FunctionDef):
            for decorator in node.decorator_list:
                self.assertIn(ast.unparse(decorator).split(".")[-1], ("property", "setter", "classmethod", "staticmethod"), where)
            every = node.args.posonlyargs + node.args.args + node.args.kwonlyargs
            self.assertEqual([arg.annotation for arg in every if arg.annotation], [], where)
            self.assertIsNone(node.returns, where)
            if node.name.startswith("__"):
                self.assertIn(node.name, SPECIAL, where)
            for default in node.args.defaults + [item for item in node.args.kw_defaults if item]:
                self.assertIsInstance(default, (ast.Constant, ast.UnaryOp, ast.Tuple, ast.Name), where)

    def test_classes_with_an_index_say_how_they_are_iterated(self):
        for where, node in nodes_of(ast.ClassDef):
            names = [item.name for item in node.body if isinstance(item, ast.FunctionDef)]
            self.assertTrue("__getitem__" not in names or "__iter__" in names, where)
            self.assertEqual(node.decorator_list + node.keywords, [], where)

    def test_calls(self):
        for where, node in nodes_of(ast.Call):
            if isinstance(node.func, ast.Name) and node.func.id in TAKING_LISTS:
                self.assertFalse(any(isinstance(arg, ast.GeneratorExp) for arg in node.args), where)

    def test_sets_are_written_where_they_are_used(self):
        allowed = set()
        for _, node in nodes_of(ast.Call):
            if isinstance(node.func, ast.Name) and node.func.id in ("sorted", "len"):
                allowed.update(ast.unparse(arg) for arg in node.args)
        for where, node in nodes_of((ast.Set, ast.SetComp)):
            self.assertIn(ast.unparse(node), allowed, where)


class Names(unittest.TestCase):
    def bound(self):
        for where, node in nodes_of((ast.Name, ast.arg, ast.FunctionDef, ast.ClassDef, ast.Attribute)):
            if isinstance(node, ast.Name) and isinstance(node.ctx, ast.Store):
                yield where, node.id
            elif isinstance(node, ast.arg):
                yield where, node.arg
            elif isinstance(node, ast.Attribute) and isinstance(node.ctx, ast.Store):
                yield where, node.attr
            elif isinstance(node, (ast.FunctionDef, ast.ClassDef)):
                yield where, node.name

    def test_no_name_means_something_else(self):
        for where, name in self.bound():
            if name not in SPECIAL:
                self.assertFalse(hasattr(builtins, name), (where, name))
                self.assertNotIn(name, BARRED, where)
                self.assertTrue(name.isascii() and not name.startswith("__"), (where, name))

    def test_builtins(self):
        for where, node in nodes_of(ast.Name):
            if hasattr(builtins, node.id):
                self.assertIn(node.id, BUILTINS, where)

    def test_no_local_name_is_an_import_or_a_class_of_its_file(self):
        for path in FILES:
            tree = parsed(path)
            taken = {alias.name for node in tree.body if isinstance(node, ast.ImportFrom) for alias in node.names}
            taken |= {node.name for node in tree.body if isinstance(node, ast.ClassDef)}
            for node in ast.walk(tree):
                if isinstance(node, ast.Name) and isinstance(node.ctx, ast.Store):
                    self.assertNotIn(node.id, taken, path)
                if isinstance(node, ast.arg):
                    self.assertNotIn(node.arg, taken, path)

    def test_strings(self):
        for where, node in nodes_of(ast.Constant):
            self.assertNotIsInstance(node.value, float, where)
            if isinstance(node.value, str):
                self.assertNotIn(chr(37), node.value, where)


if __name__ == "__main__":
    unittest.main()
