"""Rules of the language about names, operators and properties: what they reach changes only what it has made."""

import ast
import unittest

from tests.test_language import FILES, PACKAGE, parsed

CHANGING = {"append", "extend", "insert", "pop", "remove", "reverse", "clear", "update", "setdefault", "sort", "add",
            "discard"}
LISTED = set("""append clear copy count endswith extend find get index insert isalnum isalpha isdigit islower isspace isupper
    items join keys ljust lower lstrip partition pop remove replace reverse rfind rjust rpartition rsplit rstrip setdefault
    split splitlines startswith strip update upper values zfill bit_length add discard isascii""".split())
ITERATED = {"zip", "enumerate", "reversed", "map"}
TAKING = {"list", "tuple", "dict", "sorted", "sum", "any", "all", "enumerate", "zip", "min", "max"}


class Unit:
    """A function or a method."""

    def __init__(self, path, owner, node):
        self.path, self.owner, self.node, self.name = path, owner, node, node.name
        self.where = f"{path.name}:{node.lineno} {node.name}"
        self.decorators = [ast.unparse(item) for item in node.decorator_list]


def units():
    found = []
    for path in FILES:
        for node in parsed(path).body:
            if isinstance(node, ast.FunctionDef):
                found.append(Unit(path, None, node))
            if isinstance(node, ast.ClassDef):
                found.extend(Unit(path, node.name, item) for item in node.body if isinstance(item, ast.FunctionDef))
    return found


UNITS = units()
CLASSES = {node.name: node for path in FILES for node in parsed(path).body if isinstance(node, ast.ClassDef)}
METHODS = {unit.name for unit in UNITS if unit.owner and not unit.decorators and not unit.name.startswith("__")}
PROPERTIES = {unit.name for unit in UNITS if "property" in unit.decorators}
CLASS_METHODS = {unit.name for unit in UNITS if "classmethod" in unit.decorators or "staticmethod" in unit.decorators}
ATTRIBUTES = {node.attr for unit in UNITS for node in ast.walk(unit.node)
              if isinstance(node, ast.Attribute) and isinstance(node.ctx, ast.Store)}


def runs_of(unit):
    """The names that a unit calls or passes on, those that it reads off objects, and those that it calls off objects."""
    calls = [node for node in ast.walk(unit.node) if isinstance(node, ast.Call) and ast.unparse(node.func) != "isinstance"]
    values = [node.func for node in calls] + [arg for node in calls for arg in node.args]
    names = {node.id for node in values if isinstance(node, ast.Name)}
    read = {node.attr for node in ast.walk(unit.node) if isinstance(node, ast.Attribute)}
    return names, read, {node.func.attr for node in calls if isinstance(node.func, ast.Attribute)}


RUNS = {unit.where: runs_of(unit) for unit in UNITS}


def is_run(unit, other):
    """Whether the first unit can run the other one: by a call, as a property, or as a value that it passes on."""
    names, read, called = RUNS[unit.where]
    if other.owner is None:
        return other.name in names
    if other.name == "__init__":
        return other.owner in names or ("cls" in names and other.owner == unit.owner)
    return other.name in (read if "property" in other.decorators else called)


def reached():
    """The units that operators and properties run, and those that these run."""
    ahead = [unit for unit in UNITS if unit.owner and (unit.name.startswith("__") and unit.name not in ("__init__", "__enter__", "__exit__")
                                                       or "property" in unit.decorators)]
    seen = list(ahead)
    while ahead:
        unit = ahead.pop()
        for other in UNITS:
            if other not in seen and is_run(unit, other):
                seen.append(other)
                ahead.append(other)
    return seen


def is_new(node):
    """Whether an expression surely makes a new list or dict."""
    if isinstance(node, (ast.List, ast.Dict, ast.ListComp, ast.DictComp)):
        return True
    if isinstance(node, ast.BinOp):
        return is_new(node.left) or is_new(node.right)
    if isinstance(node, ast.Call) and isinstance(node.func, ast.Name):
        return node.func.id in ("list", "dict", "sorted")
    # A property that hands out a new dict counts as a copy.
    return isinstance(node, ast.Attribute) and node.attr in ("functions", "marks")


def own_names(unit):
    """The local names that are only ever assigned new lists and dicts."""
    assigned = {}
    for node in ast.walk(unit.node):
        if isinstance(node, ast.Assign):
            for target in node.targets:
                if isinstance(target, ast.Name):
                    assigned.setdefault(target.id, []).append(node.value)
    return {name for name, values in assigned.items() if all(is_new(value) for value in values)}


def root_of(node):
    """The name of the object of whose field, item or answer an expression tells; None if it tells of none."""
    is_off = False
    while isinstance(node, (ast.Attribute, ast.Subscript, ast.Call)):
        is_off = is_off or isinstance(node, ast.Attribute)
        node = node.func if isinstance(node, ast.Call) else node.value
    return node.id if is_off and isinstance(node, ast.Name) else None


def changed_names(loop):
    """The local names whose items are changed, or that are changed by a method, in the rows of a loop."""
    found = set()
    for node in [item for row in loop.body for item in ast.walk(row)]:
        if isinstance(node, ast.Subscript) and isinstance(node.ctx, (ast.Store, ast.Del)):
            found.add(ast.unparse(node.value))
        if isinstance(node, ast.Call) and isinstance(node.func, ast.Attribute) and node.func.attr in CHANGING:
            found.add(ast.unparse(node.func.value))
    return found


class Purity(unittest.TestCase):
    def test_operators_and_properties_change_only_what_is_their_own(self):
        for unit in reached():
            own = own_names(unit)
            for node in ast.walk(unit.node):
                if isinstance(node, ast.Subscript) and isinstance(node.ctx, (ast.Store, ast.Del)):
                    self.assertIn(ast.unparse(node.value), own, unit.where)
                if isinstance(node, ast.Call) and isinstance(node.func, ast.Attribute) and node.func.attr in CHANGING:
                    base = node.func.value
                    if isinstance(base, ast.Call) and isinstance(base.func, ast.Attribute):
                        self.assertEqual(base.func.attr, "setdefault", unit.where)
                        base = base.func.value
                    self.assertIn(ast.unparse(base), own, unit.where)
                if isinstance(node, (ast.AugAssign, ast.Global, ast.Nonlocal, ast.Yield, ast.Lambda)):
                    self.fail(unit.where)
                if isinstance(node, ast.Attribute) and isinstance(node.ctx, ast.Store):
                    is_own = unit.name == "__init__" and ast.unparse(node.value) == "self"
                    self.assertTrue(is_own or unit.name == "facts_from", (unit.where, ast.unparse(node)))

    def test_what_changes_objects_is_not_reached(self):
        names = {unit.name for unit in reached()}
        for name in ("kept", "grown", "least_table", "history_of", "past_of", "used", "open_holds", "_take", "_go_on"):
            self.assertIn(name, {unit.name for unit in UNITS})
            self.assertNotIn(name, names)

    def test_first_statements_of_equality(self):
        for unit in UNITS:
            if unit.name == "__eq__":
                self.assertEqual(ast.unparse(unit.node.body[0]), f"if not isinstance(other, {unit.owner}):\n    return False")
            if unit.name == "__len__":
                self.assertTrue(ast.unparse(unit.node.body[-1]).startswith("return len("), unit.where)
            if unit.name == "__iter__":
                self.assertEqual(len(unit.node.body), 1, unit.where)
                self.assertRegex(ast.unparse(unit.node.body[0]), r"^(return iter\(self(\.\w+)+\)|raise TypeError\(.*\))$")


class Names(unittest.TestCase):
    def test_properties_methods_and_attributes_have_different_names(self):
        self.assertEqual(PROPERTIES & METHODS, set())
        self.assertEqual(CLASS_METHODS & (METHODS | PROPERTIES | ATTRIBUTES), set())
        for unit in UNITS:
            if unit.owner and unit.name in METHODS:
                mine = {node.attr for node in ast.walk(CLASSES[unit.owner])
                        if isinstance(node, ast.Attribute) and isinstance(node.ctx, ast.Store)}
                self.assertNotIn(unit.name, mine, unit.where)
                # The interface has one method with such a name.
                self.assertFalse(unit.name != "remove" and any(hasattr(kind, unit.name) for kind in (str, int, list, dict, set, bytes)), unit.where)

    def test_no_attribute_has_the_name_of_a_property(self):
        self.assertEqual(ATTRIBUTES & PROPERTIES, set())

    def test_what_is_called_off_a_value_is_no_attribute(self):
        for unit in UNITS:
            for node in ast.walk(unit.node):
                if isinstance(node, ast.Call) and isinstance(node.func, ast.Attribute):
                    self.assertNotIn(node.func.attr, ATTRIBUTES, unit.where)

    def test_what_is_walked_is_not_what_is_changed(self):
        for unit in UNITS:
            for node in ast.walk(unit.node):
                if isinstance(node, ast.Call) and isinstance(node.func, ast.Attribute) and node.func.attr in ("extend", "update"):
                    walked = node.args[0]
                    if isinstance(walked, ast.Attribute) and isinstance(node.func.value, ast.Attribute):
                        self.assertNotEqual(walked.attr, node.func.value.attr, unit.where)

    def test_no_method_stands_twice(self):
        for name, node in CLASSES.items():
            names = [item.name for item in node.body if isinstance(item, ast.FunctionDef)]
            self.assertEqual(len(names), len(set(names)), name)

    def test_methods_that_are_called_are_own_ones_or_listed(self):
        for unit in UNITS:
            for node in ast.walk(unit.node):
                if isinstance(node, ast.Call) and isinstance(node.func, ast.Attribute):
                    name = node.func.attr
                    own = METHODS | CLASS_METHODS | {"__init__"}
                    self.assertTrue(name in own or name in LISTED, (unit.where, name))

    def test_generators(self):
        generators = [unit.name for unit in UNITS if any(isinstance(node, ast.Yield) for node in ast.walk(unit.node))]
        self.assertEqual(sorted(generators), sorted(set(generators)))
        for name in generators:
            self.assertEqual([unit.name for unit in UNITS].count(name), 1)
            maker = [unit for unit in UNITS if unit.name == name][0]
            self.assertFalse(any(is_run(unit, maker) for unit in UNITS), name)

    def test_imports_make_no_circle(self):
        def name_of(path):
            return ".".join(path.relative_to(PACKAGE.parent).with_suffix("").parts)
        uses = {name_of(path): {node.module for node in parsed(path).body if isinstance(node, ast.ImportFrom)} for path in FILES}
        done = set()
        while len(done) < len(uses):
            free = [name for name in uses if name not in done and not (uses[name] & set(uses)) - done]
            self.assertTrue(free)
            done.update(free)


class Expressions(unittest.TestCase):
    def each(self):
        for path in FILES:
            tree = parsed(path)
            for node in ast.walk(tree):
                for child in ast.iter_child_nodes(node):
                    yield f"{path.name}:{getattr(child, 'lineno', 0)}", child, node

    def test_what_is_iterated_at_once(self):
        for where, node, above in self.each():
            if isinstance(node, ast.Call) and ast.unparse(node.func).split(".")[-1] in ITERATED | {"items", "keys", "values"}:
                is_head = isinstance(above, (ast.For, ast.comprehension)) and above.iter is node
                is_taken = isinstance(above, ast.Call) and ast.unparse(above.func) in TAKING
                self.assertTrue(is_head or is_taken, where)

    def test_is_stands_beside_none_only(self):
        for where, node, _ in self.each():
            if isinstance(node, ast.Compare):
                for sign, other in zip(node.ops, node.comparators):
                    if isinstance(sign, (ast.Is, ast.IsNot)):
                        self.assertIn(ast.unparse(other), ("None", "True", "False"), where)

    def test_errors_that_are_caught(self):
        errors = [path for path in FILES if path.stem == "errors"][0]
        own = {node.name for node in parsed(errors).body if isinstance(node, ast.ClassDef)}
        for where, node, _ in self.each():
            if isinstance(node, ast.ExceptHandler):
                self.assertIn(ast.unparse(node.type), own | {"KeyError"}, where)
            if isinstance(node, ast.Raise):
                self.assertIsInstance(node.exc, ast.Call, where)

    def test_calls_of_builtins(self):
        for where, node, _ in self.each():
            if isinstance(node, ast.Call) and isinstance(node.func, ast.Name):
                keywords = {item.arg for item in node.keywords}
                if node.func.id == "reversed":
                    self.assertIn(ast.unparse(node.args[0]).split("(")[0], ("list", "tuple", "sorted", "range"), where)
                if node.func.id in ("sorted", "min", "max", "sum", "len", "any", "all", "zip", "enumerate"):
                    self.assertTrue(keywords <= {"reverse", "default", "start"}, where)

    def test_targets_of_loops_are_not_changed_in_them(self):
        for unit in UNITS:
            for loop in [node for node in ast.walk(unit.node) if isinstance(node, ast.For)]:
                over = ast.unparse(loop.iter)
                for node in [item for row in loop.body for item in ast.walk(row)]:
                    if isinstance(node, ast.Call) and isinstance(node.func, ast.Attribute) and node.func.attr in CHANGING:
                        self.assertNotEqual(ast.unparse(node.func.value), over, unit.where)
                    if isinstance(node, ast.Subscript) and isinstance(node.ctx, ast.Store):
                        self.assertNotIn(ast.unparse(node.value), (over, over.split(".")[0]), unit.where)

    def test_what_loops_change_comes_from_no_field_of_what_they_walk(self):
        for unit in UNITS:
            sources = {}
            for node in [item for item in ast.walk(unit.node) if isinstance(item, ast.Assign)]:
                for target in [item for item in node.targets if isinstance(item, ast.Name)]:
                    sources.setdefault(target.id, set()).add(root_of(node.value))
            for loop in [node for node in ast.walk(unit.node) if isinstance(node, ast.For)]:
                walked = {root_of(node) for node in ast.walk(loop.iter)} - {None}
                for name in changed_names(loop):
                    self.assertEqual(walked & sources.get(name, set()), set(), (unit.where, name))

    def test_names_in_comprehensions_within_others(self):
        kinds = (ast.ListComp, ast.SetComp, ast.DictComp, ast.GeneratorExp)
        for where, node, _ in self.each():
            if isinstance(node, kinds):
                self.assertNotIsInstance(node, ast.GeneratorExp, where)
                mine = {name.id for part in node.generators for name in ast.walk(part.target) if isinstance(name, ast.Name)}
                for inner in [item for item in ast.walk(node) if isinstance(item, kinds) and item is not node]:
                    others = {name.id for part in inner.generators for name in ast.walk(part.target)
                              if isinstance(name, ast.Name)}
                    self.assertEqual(mine & others - {"_"}, set(), where)

    def test_words_that_stand_nowhere(self):
        for path in FILES:
            text = path.read_text(encoding="utf-8")
            for word in ("(type)", "Meta", "metaclass=", "dataclass", "overload", "contextmanager", "_wall"):
                self.assertNotIn(word, text, path)
            for node in ast.walk(parsed(path)):
                if isinstance(node, ast.Name):
                    self.assertNotIn(node.id, ("type", "typing", "enum"), path)


if __name__ == "__main__":
    unittest.main()
