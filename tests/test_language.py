"""The package keeps to the part of Python that LANGUAGE.md tells, as far as a walk over its tree can see."""

import ast
import builtins
import pathlib
import re
import unittest

PACKAGE = pathlib.Path(__file__).resolve().parent.parent / "quirecopies"
FILES = sorted(PACKAGE.rglob("*.py"))

NODES = {
    "Module", "FunctionDef", "ClassDef", "arguments", "arg", "Return", "Assign", "AugAssign", "For", "While", "If",
    "Raise", "Try", "ExceptHandler", "ImportFrom", "alias", "Expr", "Pass", "Break", "Continue", "BoolOp", "And", "Or",
    "BinOp", "Add", "Sub", "Mult", "FloorDiv", "Mod", "Pow", "BitAnd", "BitOr", "BitXor", "LShift", "RShift",
    "UnaryOp", "USub", "Not", "Invert", "Lambda", "IfExp", "Dict", "List", "Tuple", "ListComp", "comprehension",
    "Compare", "Eq", "NotEq", "Lt", "LtE", "Gt", "GtE", "Is", "IsNot", "In", "NotIn", "Call", "keyword", "Constant",
    "Attribute", "Subscript", "Slice", "Name", "Load", "Store", "JoinedStr", "FormattedValue",
}
OWN_NAMES = set(
    "len range enumerate zip min max sum abs sorted reversed int str bool list tuple dict set frozenset isinstance ord "
    "repr any all divmod Exception ValueError TypeError KeyError IndexError LookupError ZeroDivisionError "
    "ArithmeticError OverflowError RuntimeError NotImplementedError AttributeError StopIteration".split())
METHODS = set(
    "append clear copy count endswith extend find get index insert isalnum isalpha isdigit islower isspace isupper "
    "items join keys ljust lower lstrip partition pop remove replace reverse rfind rjust rpartition rsplit rstrip "
    "setdefault split splitlines startswith strip update upper values zfill bit_length".split())
UNUSED_NAMES = set("register mro elements open input version_info with_traceback add_note format format_map".split())
UNUSED_WORDS = set(
    "type typing typing_extensions enum Enum IntEnum StrEnum Flag IntFlag Generic Protocol ABC ABCMeta namedtuple "
    "NamedTuple TypedDict TYPE_CHECKING abstractmethod".split())


def trees():
    return [(path, ast.parse(path.read_text(encoding="utf-8"))) for path in FILES]


def every_node():
    return [(f"{path.name}:{getattr(node, 'lineno', 0)}", node) for path, tree in trees() for node in ast.walk(tree)]


def is_plain(node):
    if isinstance(node, (ast.Tuple, ast.List)):
        return all(is_plain(part) for part in node.elts)
    if isinstance(node, ast.Dict):
        return all(is_plain(part) for part in node.keys + node.values)
    return isinstance(node, ast.Constant) and isinstance(node.value, (int, str, type(None)))


class Language(unittest.TestCase):

    def test_files(self):
        self.assertIn("copies.py", [path.name for path in FILES])
        for path in PACKAGE.rglob("*"):
            if "__pycache__" not in path.parts:
                self.assertRegex(path.name, r"^([a-z][a-z0-9_]*|__init__)\.py$")
                self.assertNotIn(path.stem, dir(builtins))

    def test_signs_and_sizes(self):
        for path in FILES:
            text = path.read_text(encoding="utf-8")
            self.assertRegex(text, r"\A[ -~\n]*\Z", path.name)
            rows = text.split("\n")
            self.assertLessEqual(len(rows), 400, path.name)
            self.assertLessEqual(max(map(len, rows)), 120, path.name)
            words = set(re.findall(r"\w+", text))
            self.assertFalse(words & UNUSED_WORDS, path.name)
            self.assertIsNone(re.search("dataclass|overload|contextmanager", text), path.name)

    def test_functions(self):
        for place, node in every_node():
            if isinstance(node, ast.FunctionDef):
                self.assertLessEqual(node.end_lineno - node.lineno + 1, 40, place)
                self.assertFalse(node.decorator_list or node.args.vararg or node.args.kwarg or node.args.kwonlyargs, place)
                self.assertFalse(node.args.posonlyargs, place)

    def test_statements_and_expressions(self):
        nodes = every_node()
        firsts = [node.body[0] for place, node in nodes if isinstance(node, ast.Module)]
        for place, node in nodes:
            self.assertIn(type(node).__name__, NODES, place)
            if isinstance(node, ast.Assign):
                self.assertEqual(len(node.targets), 1, place)
            if isinstance(node, (ast.For, ast.While)):
                self.assertFalse(node.orelse, place)
            if isinstance(node, ast.Try):
                self.assertFalse(node.finalbody, place)
            if isinstance(node, ast.ListComp):
                self.assertEqual(len(node.generators), 1, place)
                self.assertLessEqual(len(node.generators[0].ifs), 1, place)
            if isinstance(node, ast.Constant):
                self.assertIsInstance(node.value, (int, str, type(None)), place)
            if isinstance(node, ast.Expr) and node not in firsts:
                self.assertIsInstance(node.value, ast.Call, place)
            if isinstance(node, ast.Compare) and any(isinstance(op, (ast.Is, ast.IsNot)) for op in node.ops):
                self.assertTrue(all(isinstance(part, ast.Constant) for part in node.comparators), place)

    def test_top_of_modules(self):
        for path, tree in trees():
            bound = []
            for node in tree.body:
                if isinstance(node, ast.Assign):
                    self.assertTrue(is_plain(node.value), f"{path.name}:{node.lineno}")
                    bound.append(node.targets[0].id)
                elif isinstance(node, (ast.FunctionDef, ast.ClassDef)):
                    bound.append(node.name)
                elif isinstance(node, ast.ImportFrom):
                    bound.extend(alias.asname or alias.name for alias in node.names)
                else:
                    self.assertIs(node, tree.body[0], f"{path.name}:{node.lineno}")
            self.assertEqual(len(bound), len(set(bound)), path.name)

    def test_imports(self):
        draws = {}
        defined = {}
        for path, tree in trees():
            defined["quirecopies." + path.stem] = {
                node.targets[0].id if isinstance(node, ast.Assign) else node.name
                for node in tree.body if isinstance(node, (ast.Assign, ast.FunctionDef, ast.ClassDef))}
        for path, tree in trees():
            rows = [node for node in ast.walk(tree) if isinstance(node, ast.ImportFrom)]
            for row in rows:
                self.assertIn(row, tree.body, path.name)
                self.assertEqual(row.level, 0, path.name)
                for alias in row.names:
                    self.assertIn(alias.name, defined[row.module], path.name)
            draws["quirecopies." + path.stem] = {row.module for row in rows}
        self.assertEqual(draws["quirecopies.__init__"], set())
        while draws:
            ends = [name for name in draws if not draws[name] & set(draws)]
            self.assertTrue(ends, f"drawn in a circle: {sorted(draws)}")
            for name in ends:
                draws.pop(name)

    def test_names(self):
        for path, tree in trees():
            top = {node.name for node in tree.body if isinstance(node, (ast.FunctionDef, ast.ClassDef))}
            top |= {alias.name for row in tree.body if isinstance(row, ast.ImportFrom) for alias in row.names}
            for node in ast.walk(tree):
                place = f"{path.name}:{getattr(node, 'lineno', 0)}"
                if isinstance(node, ast.Name) and isinstance(node.ctx, ast.Load) and node.id in dir(builtins):
                    self.assertIn(node.id, OWN_NAMES, place)
                name = None
                if isinstance(node, ast.Name) and isinstance(node.ctx, ast.Store):
                    name = node.id
                elif isinstance(node, ast.arg):
                    name = node.arg
                elif isinstance(node, ast.ExceptHandler):
                    name = node.name
                if name is not None:
                    self.assertRegex(name, r"^[A-Za-z][A-Za-z0-9_]*$", place)
                    self.assertNotIn(name, dir(builtins), place)
                    self.assertNotIn(name, top | UNUSED_NAMES, place)

    def test_methods(self):
        own = {node.name for place, node in every_node() if isinstance(node, ast.FunctionDef)}
        for place, node in every_node():
            if isinstance(node, ast.Attribute):
                self.assertNotIn(node.attr, UNUSED_NAMES, place)
            if isinstance(node, ast.Call) and isinstance(node.func, ast.Attribute):
                self.assertIn(node.func.attr, METHODS | own, place)
            if isinstance(node, ast.ExceptHandler):
                self.assertIsInstance(node.type, ast.Name, place)
                self.assertNotIn(node.type.id, dir(builtins), place)
            if isinstance(node, ast.ClassDef):
                self.assertLessEqual(len(node.bases), 1, place)
                self.assertFalse(node.decorator_list, place)
                for part in node.body:
                    self.assertIsInstance(part, ast.FunctionDef, place)

    def test_values_of_objects_are_no_methods(self):
        methods = {part.name for place, node in every_node() if isinstance(node, ast.ClassDef)
                   for part in node.body if isinstance(part, ast.FunctionDef)}
        values = {node.attr for place, node in every_node()
                  if isinstance(node, ast.Attribute) and isinstance(node.ctx, ast.Store)}
        self.assertFalse(methods & values)
        free = set(dir(str) + dir(int) + dir(list) + dir(dict) + dir(set) + dir(bytes))
        self.assertFalse(values & free)

    def test_walked_at_once(self):
        makers = {"range", "zip", "enumerate", "reversed", "items", "keys", "values"}
        takers = {"list", "tuple", "dict", "sorted", "sum", "any", "all", "enumerate", "zip", "min", "max"}
        nodes = every_node()
        walked = [node.iter for place, node in nodes if isinstance(node, (ast.For, ast.comprehension))]
        for place, node in nodes:
            if isinstance(node, ast.Call) and isinstance(node.func, ast.Name) and node.func.id in takers:
                walked.extend(node.args[:1])
        for place, node in nodes:
            if isinstance(node, ast.Call) and getattr(node.func, "id", getattr(node.func, "attr", "")) in makers:
                self.assertIn(node, walked, place)

    def test_keywords(self):
        allowed = {"sorted": {"key", "reverse"}, "min": {"key", "default"}, "max": {"key", "default"},
                   "sum": {"start"}, "enumerate": {"start"}, "zip": {"strict"}}
        for place, node in every_node():
            if isinstance(node, ast.Call):
                name = getattr(node.func, "id", "")
                self.assertLessEqual({keyword.arg for keyword in node.keywords}, allowed.get(name, set()), place)


if __name__ == "__main__":
    unittest.main()
