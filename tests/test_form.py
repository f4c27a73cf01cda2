"""The package keeps to the part of Python that it is to be written in, as far as a walk over its trees can see."""

import ast
import builtins
import pathlib
import re
import unittest

FOLDER = pathlib.Path(__file__).resolve().parent.parent / "lanecode"
FILES = sorted(FOLDER.glob("*.py"))
TREES = {path: ast.parse(path.read_text(encoding="utf-8")) for path in FILES}

ALLOWED_BUILTINS = set(
    "len range enumerate zip min max sum abs sorted reversed int str bool list tuple dict set frozenset isinstance ord "
    "repr any all divmod Exception ValueError TypeError KeyError IndexError LookupError ZeroDivisionError "
    "ArithmeticError OverflowError RuntimeError NotImplementedError AttributeError StopIteration".split())
ALLOWED_METHODS = set(
    "append clear copy count endswith extend find get index insert isalnum isalpha isdigit islower isspace isupper "
    "items join keys ljust lower lstrip partition pop remove replace reverse rfind rjust rpartition rsplit rstrip "
    "setdefault split splitlines startswith strip update upper values zfill bit_length".split())
VALUES_LIKE_PYTHONS = set("count index title find get join lower upper split strip copy add".split())
NOWHERE = set("register mro elements open input version_info with_traceback add_note format format_map".split())
NOT_AS_NAMES = set(
    "attrgetter breakpoint builtins compile copyright credits delattr dir eval exec exit gc getattr globals hasattr "
    "help id importlib license locals methodcaller os quit setattr super type vars sys __name__ chr print".split())
FORBIDDEN_WORDS = (
    "type|typing|typing_extensions|enum|Enum|IntEnum|StrEnum|Flag|IntFlag|Generic|Protocol|ABC|ABCMeta|namedtuple|"
    "NamedTuple|TypedDict|TYPE_CHECKING|abstractmethod")
FORBIDDEN_FILES = set(
    "test tests testing site conftest sitecustomize usercustomize".split()) | set(FORBIDDEN_WORDS.split("|"))
STATEMENTS = (
    ast.Assign, ast.AugAssign, ast.If, ast.While, ast.For, ast.Return, ast.Break, ast.Continue, ast.Pass, ast.Raise,
    ast.Try, ast.Expr, ast.FunctionDef, ast.ClassDef, ast.ImportFrom)
EXPRESSIONS = (
    ast.Constant, ast.List, ast.Tuple, ast.Dict, ast.BinOp, ast.UnaryOp, ast.BoolOp, ast.Compare, ast.IfExp, ast.Call,
    ast.Attribute, ast.Subscript, ast.Slice, ast.ListComp, ast.JoinedStr, ast.FormattedValue, ast.Name, ast.Lambda)
OPERATORS = (
    ast.Add, ast.Sub, ast.Mult, ast.FloorDiv, ast.Mod, ast.LShift, ast.RShift, ast.BitAnd, ast.BitOr, ast.BitXor)
WALKED = set("zip enumerate reversed range".split())
WALKING_CALLS = set("list tuple dict sorted sum any all enumerate zip min max".split())
PYTHONS_OWN = set(dir(builtins))
PYTHONS_ATTRIBUTES = {name for kind in (str, int, list, dict, set, bytes, tuple) for name in dir(kind)}


def functions(tree):
    return [node for node in ast.walk(tree) if isinstance(node, ast.FunctionDef)]


def top_names(tree):
    names = []
    for node in tree.body:
        if isinstance(node, (ast.FunctionDef, ast.ClassDef)):
            names.append(node.name)
        elif isinstance(node, ast.Assign):
            names.append(node.targets[0].id)
        elif isinstance(node, ast.ImportFrom):
            names += [alias.asname or alias.name for alias in node.names]
    return names


def own_names(tree):
    return [name for name in top_names(tree) if name not in imported_names(tree)]


def imported_names(tree):
    return [alias.name for node in tree.body if isinstance(node, ast.ImportFrom) for alias in node.names]


def bound_in(function):
    bound = {arg.arg for arg in function.args.args}
    for node in ast.walk(function):
        if isinstance(node, ast.Name) and isinstance(node.ctx, ast.Store):
            bound.add(node.id)
        elif isinstance(node, ast.ExceptHandler) and node.name:
            bound.add(node.name)
        elif isinstance(node, ast.Lambda):
            bound |= {arg.arg for arg in node.args.args}
    return bound


def is_plain(node, functions_above):
    if isinstance(node, ast.Constant):
        return node.value is None or isinstance(node.value, (bool, int, str))
    if isinstance(node, (ast.List, ast.Tuple)):
        return all(is_plain(part, functions_above) for part in node.elts)
    if isinstance(node, ast.Dict):
        return all(is_plain(part, functions_above) for part in node.keys + node.values)
    return isinstance(node, ast.Name) and node.id in functions_above


def parents(tree):
    return {child: node for node in ast.walk(tree) for child in ast.iter_child_nodes(node)}


class Files(unittest.TestCase):
    def test_files(self):
        self.assertTrue((FOLDER / "__init__.py").is_file())
        for path in FOLDER.iterdir():
            if path.name == "__pycache__":
                continue
            self.assertEqual(path.suffix, ".py", path)
            self.assertRegex(path.stem, r"^(__init__|__main__|[a-z][a-z0-9_]*)$")
            self.assertNotIn(path.stem, FORBIDDEN_FILES | PYTHONS_OWN)
            self.assertFalse(path.stem.startswith("test_"))

    def test_signs_and_sizes(self):
        for path in FILES:
            text = path.read_text(encoding="utf-8")
            self.assertRegex(text, r"\A[\n -~]*\Z", path)
            lines = text.split("\n")
            self.assertLessEqual(len(lines), 400, path)
            self.assertLessEqual(max(len(line) for line in lines), 120, path)
            self.assertIsNone(re.search(rf"\b({FORBIDDEN_WORDS})\b|dataclass|overload|contextmanager", text), path)
            for function in functions(TREES[path]):
                self.assertLessEqual(function.end_lineno - function.lineno + 1, 40, (path, function.name))


class Tops(unittest.TestCase):
    def test_statements(self):
        for path, tree in TREES.items():
            above = set()
            for spot, node in enumerate(tree.body):
                if isinstance(node, ast.FunctionDef):
                    above.add(node.name)
                elif isinstance(node, ast.Assign):
                    self.assertEqual(len(node.targets), 1, path)
                    self.assertTrue(is_plain(node.value, above), (path, node.lineno))
                    if isinstance(node.value, (ast.List, ast.Dict)):
                        parts = list(ast.walk(node.value))[1:]
                        self.assertFalse([part for part in parts if isinstance(part, (ast.List, ast.Dict))], path)
                elif isinstance(node, ast.Expr):
                    self.assertTrue(spot == 0 and isinstance(node.value.value, str), path)
                else:
                    self.assertIsInstance(node, (ast.ImportFrom, ast.ClassDef), path)

    def test_each_name_once(self):
        for path, tree in TREES.items():
            names = top_names(tree)
            self.assertEqual(len(names), len(set(names)), path)

    def test_every_name_is_used(self):
        everywhere = "\n".join([path.read_text() for path in FILES])
        for path, tree in TREES.items():
            for name in own_names(tree):
                self.assertGreater(len(re.findall(rf"\b{name}\b", everywhere)), 1 if name != "answers" else 0, name)
            for name in imported_names(tree):
                self.assertGreater(len(re.findall(rf"\b{name}\b", path.read_text())), 1, (path, name))

    def test_imports(self):
        drawn = {}
        for path, tree in TREES.items():
            drawn[path.stem] = []
            for node in [node for node in ast.walk(tree) if isinstance(node, (ast.Import, ast.ImportFrom))]:
                self.assertIsInstance(node, ast.ImportFrom, path)
                self.assertIn(node, tree.body, path)
                self.assertEqual(node.level, 0, path)
                package, dot, module = node.module.partition(".")
                self.assertEqual(package, "lanecode", path)
                for alias in node.names:
                    self.assertIsNone(alias.asname)
                    self.assertIn(alias.name, own_names(TREES[FOLDER / (module + ".py")]), path)
                drawn[path.stem].append(module)
        self.assertEqual(drawn["__init__"], [])
        while drawn:
            free = [module for module in drawn if not [other for other in drawn[module] if other in drawn]]
            self.assertTrue(free, f"files draw from one another: {drawn}")
            drawn = {module: others for module, others in drawn.items() if module not in free}


class Trees(unittest.TestCase):
    def each_node(self):
        for path, tree in TREES.items():
            for node in ast.walk(tree):
                yield path, node

    def test_statements(self):
        for path, node in self.each_node():
            where = (path.name, getattr(node, "lineno", 0))
            if isinstance(node, ast.stmt):
                self.assertIsInstance(node, STATEMENTS, where)
            if isinstance(node, ast.Assign):
                self.assertEqual(len(node.targets), 1, where)
                self.assertNotIsInstance(node.targets[0], (ast.Tuple, ast.List), where)
            if isinstance(node, (ast.For, ast.While)):
                self.assertEqual(node.orelse, [], where)
            if isinstance(node, ast.Try):
                self.assertEqual(node.finalbody, [], where)
                for handler in node.handlers:
                    self.assertIsInstance(handler.type, ast.Name, where)
                    self.assertNotIn(handler.type.id, PYTHONS_OWN, where)

    def test_expressions(self):
        for path, node in self.each_node():
            where = (path.name, getattr(node, "lineno", 0))
            if isinstance(node, ast.expr):
                self.assertIsInstance(node, EXPRESSIONS, where)
            if isinstance(node, ast.operator):
                self.assertIsInstance(node, OPERATORS, where)
            if isinstance(node, ast.Constant):
                self.assertNotIsInstance(node.value, (float, complex, bytes), where)
                self.assertNotIn("%", str(node.value), where)
            if isinstance(node, ast.ListComp):
                self.assertEqual(len(node.generators), 1, where)
                self.assertLessEqual(len(node.generators[0].ifs), 1, where)
            if isinstance(node, ast.FormattedValue):
                self.assertIsInstance(node.value, ast.Name, where)
                self.assertIsNone(node.format_spec, where)
            if isinstance(node, ast.Compare):
                for operator, right in zip(node.ops, node.comparators):
                    if isinstance(operator, (ast.Is, ast.IsNot)):
                        self.assertIsInstance(right, ast.Constant, where)
                        self.assertIn(right.value, (None, True, False), where)

    def test_functions(self):
        for path, tree in TREES.items():
            classes = [node.name for node in tree.body if isinstance(node, ast.ClassDef)]
            taken = set(classes) | set(imported_names(tree)) | PYTHONS_OWN
            for function in functions(tree):
                told = function.args
                self.assertFalse(told.vararg or told.kwarg or told.kwonlyargs or told.posonlyargs, function.name)
                self.assertFalse(function.decorator_list or function.returns, function.name)
                self.assertFalse([arg for arg in told.args if arg.annotation], function.name)
                self.assertFalse(bound_in(function) & taken, (path, function.name))

    def test_names(self):
        for path, tree in TREES.items():
            known = set(top_names(tree))
            for function in functions(tree):
                names = {node.id for node in ast.walk(function) if isinstance(node, ast.Name)}
                bound = bound_in(function)
                for name in names | bound:
                    self.assertRegex(name, r"^[A-Za-z][A-Za-z0-9_]*$", path)
                    self.assertNotIn(name, NOWHERE | NOT_AS_NAMES, path)
                self.assertFalse(names - bound - known - ALLOWED_BUILTINS, (path, function.name))

    def test_classes(self):
        methods = set()
        values = set()
        for path, tree in TREES.items():
            for node in [node for node in ast.walk(tree) if isinstance(node, ast.ClassDef)]:
                self.assertIn(node, tree.body, path)
                self.assertLessEqual(len(node.bases), 1)
                self.assertFalse(node.keywords or node.decorator_list)
                names = [part.name for part in node.body if isinstance(part, ast.FunctionDef)]
                self.assertEqual(len(names), len(set(names)))
                methods |= set(names) - {"__init__"}
                rest = [part for part in node.body if not isinstance(part, ast.FunctionDef)]
                self.assertTrue(all(isinstance(part, ast.Expr) for part in rest), node.name)
            values |= {node.attr for node in ast.walk(tree)
                       if isinstance(node, ast.Attribute) and isinstance(node.ctx, ast.Store)}
        self.assertFalse(methods & values)
        self.assertFalse((methods | values) & NOWHERE)
        self.assertFalse(methods & (PYTHONS_ATTRIBUTES - ALLOWED_METHODS - {"add", "discard"}))
        self.assertFalse(values & (PYTHONS_ATTRIBUTES - VALUES_LIKE_PYTHONS))
        self.known_attributes = methods | values | ALLOWED_METHODS
        for path, node in self.each_node():
            if isinstance(node, ast.Attribute):
                self.assertIn(node.attr, self.known_attributes, (path.name, node.lineno))

    def test_what_is_walked_is_walked_at_once(self):
        for path, tree in TREES.items():
            above = parents(tree)
            for node in ast.walk(tree):
                if isinstance(node, ast.Call) and self.makes_a_walk(node):
                    around = above[node]
                    walked = isinstance(around, (ast.For, ast.comprehension)) and around.iter is node
                    handed = isinstance(around, ast.Call) and isinstance(around.func, ast.Name) and (
                        around.func.id in WALKING_CALLS and around.args[0] is node)
                    self.assertTrue(walked or handed, (path.name, node.lineno))

    def makes_a_walk(self, node):
        if isinstance(node.func, ast.Attribute):
            return node.func.attr in ("items", "keys", "values")
        return isinstance(node.func, ast.Name) and node.func.id in WALKED

    def test_pythons_own_are_called_alone(self):
        for path, tree in TREES.items():
            above = parents(tree)
            for node in ast.walk(tree):
                around = above.get(node)
                if isinstance(node, ast.Name) and node.id in ALLOWED_BUILTINS and node.id[0].islower():
                    self.assertTrue(isinstance(around, ast.Call) and around.func is node, (path.name, node.lineno))
                if isinstance(node, ast.Call):
                    self.assertEqual(node.keywords, [], (path.name, node.lineno))
                if isinstance(node, ast.Attribute) and node.attr in ALLOWED_METHODS and isinstance(node.ctx, ast.Load):
                    self.assertTrue(isinstance(around, ast.Call) and around.func is node, (path.name, node.lineno))

    def test_tables_of_a_files_top_are_only_read(self):
        for path, tree in TREES.items():
            tables = {node.targets[0].id for node in tree.body
                      if isinstance(node, ast.Assign) and isinstance(node.value, (ast.List, ast.Dict))}
            above = parents(tree)
            for node in ast.walk(tree):
                if not (isinstance(node, ast.Name) and node.id in tables and isinstance(node.ctx, ast.Load)):
                    continue
                around = above[node]
                read = isinstance(around, ast.Subscript) and isinstance(around.ctx, ast.Load)
                asked = isinstance(around, ast.Compare)
                got = isinstance(around, ast.Attribute) and around.attr == "get"
                self.assertTrue(read or asked or got, (path.name, node.lineno))

    def test_no_function_calls_itself_in_whatever_many_steps(self):
        calls = {}
        for path, tree in TREES.items():
            for function in functions(tree):
                named = {node.func.id if isinstance(node.func, ast.Name) else node.func.attr
                         for node in ast.walk(function) if isinstance(node, ast.Call)
                         and isinstance(node.func, (ast.Name, ast.Attribute))}
                calls.setdefault(function.name, set()).update(named)
        while calls:
            free = [name for name in calls if not [other for other in calls[name] if other in calls]]
            self.assertTrue(free, f"functions call one another: {sorted(calls)}")
            calls = {name: named for name, named in calls.items() if name not in free}


if __name__ == "__main__":
    unittest.main()
