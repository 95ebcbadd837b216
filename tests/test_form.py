"""The rules of the form of the code that a short test can see."""

import ast
import builtins
import os
import re
import unittest

FOLDER = os.path.join(os.path.dirname(os.path.dirname(os.path.abspath(__file__))), "tailranks")
BARRED_WORDS = (
    "type", "typing", "typing_extensions", "enum", "Enum", "IntEnum", "StrEnum", "Flag", "IntFlag",
    "Generic", "Protocol", "ABC", "ABCMeta", "namedtuple", "NamedTuple", "TypedDict",
    "TYPE_CHECKING", "abstractmethod",
)
BARRED_PARTS = ("dataclass", "overload", "contextmanager")
CALLED = {
    "len", "range", "enumerate", "zip", "min", "max", "sum", "abs", "sorted", "reversed", "int",
    "str", "bool", "list", "tuple", "dict", "set", "isinstance", "ord", "repr", "any", "all",
    "divmod", "iter", "next", "super", "TypeError", "cls", "on_step",
}
METHODS = {
    "append", "clear", "copy", "count", "endswith", "extend", "find", "get", "index", "insert",
    "isdigit", "items", "join", "keys", "pop", "remove", "replace", "reverse", "setdefault", "split",
    "startswith", "strip", "update", "values",
}
# Methods of builtin values that no attribute may be called.
NO_ATTRIBUTES = {
    "items", "keys", "values", "pop", "update", "append", "clear", "extend", "insert", "remove", "reverse", "setdefault",
    "sort", "args", "encode", "decode", "hex", "fromhex", "format",
}
DOUBLE = {
    "__init__", "__eq__", "__repr__", "__str__", "__len__", "__call__", "__iter__", "__lt__", "__contains__", "__getitem__",
}
DECORATORS = {"property", "staticmethod", "classmethod"}
KINDS = {"int", "str", "bool", "bytes", "list", "tuple", "dict"}


def sources():
    for name in sorted(os.listdir(FOLDER)):
        if name != "__pycache__":
            with open(os.path.join(FOLDER, name), encoding="utf-8", newline="") as file:
                yield name, file.read()


class FormTest(unittest.TestCase):
    def test_files(self):
        names = [name for name, text in sources()]
        self.assertIn("__init__.py", names)
        for name in names:
            self.assertRegex(name, r"^[a-z0-9_]+\.py$")

    def test_characters_and_sizes(self):
        for name, text in sources():
            self.assertRegex(text, r"\A[ -~\n]*\Z", name)
            self.assertLessEqual(len(text.split("\n")), 400, name)
            self.assertLessEqual(max(len(line) for line in text.split("\n")), 120, name)

    def test_words(self):
        for name, text in sources():
            words = re.findall(r"\w+", text)
            self.assertEqual([word for word in words if word in BARRED_WORDS], [], name)
            self.assertEqual([part for part in BARRED_PARTS if part in text], [], name)

    def test_functions(self):
        for name, text in sources():
            for node in ast.walk(ast.parse(text)):
                if isinstance(node, ast.FunctionDef):
                    self.assertLessEqual(node.end_lineno - node.lineno + 1, 40, (name, node.name))

    def test_imports(self):
        for name, text in sources():
            for node in ast.walk(ast.parse(text)):
                self.assertNotIsInstance(node, ast.Import, name)
                if isinstance(node, ast.ImportFrom):
                    self.assertEqual(node.level, 0)
                    self.assertTrue(node.module.startswith("tailranks."), (name, node.module))

    def test_called_names(self):
        """Only the builtins of the subset and own names are called."""
        own = set()
        for name, text in sources():
            for node in ast.walk(ast.parse(text)):
                if isinstance(node, (ast.FunctionDef, ast.ClassDef)):
                    own.add(node.name)
        for name, text in sources():
            for node in ast.walk(ast.parse(text)):
                if isinstance(node, ast.Call) and isinstance(node.func, ast.Name):
                    self.assertIn(node.func.id, CALLED | own, name)

    def test_called_methods(self):
        """Only methods of the subset and own methods are called."""
        own = set()
        for name, text in sources():
            for node in ast.walk(ast.parse(text)):
                if isinstance(node, ast.FunctionDef):
                    own.add(node.name)
        for name, text in sources():
            for node in ast.walk(ast.parse(text)):
                if isinstance(node, ast.Call) and isinstance(node.func, ast.Attribute):
                    self.assertIn(node.func.attr, METHODS | own | {"__init__"}, name)

    def test_local_names(self):
        """No parameter or local variable has the name of an import, of a class or of a builtin."""
        for name, text in sources():
            tree = ast.parse(text)
            taken = set(dir(builtins))
            for node in ast.walk(tree):
                if isinstance(node, ast.ImportFrom):
                    taken.update(alias.name for alias in node.names)
                if isinstance(node, ast.ClassDef):
                    taken.add(node.name)
            for node in ast.walk(tree):
                if isinstance(node, ast.arg):
                    self.check_local(name, node.arg, taken)
                if isinstance(node, ast.Name) and isinstance(node.ctx, ast.Store):
                    self.check_local(name, node.id, taken)

    def check_local(self, name, local, taken):
        self.assertNotIn(local, taken, name)
        self.assertFalse(local.startswith("_"), (name, local))

    def test_barred_forms(self):
        """No floats, no true division, no generator expressions and no annotations."""
        for name, text in sources():
            for node in ast.walk(ast.parse(text)):
                self.assertNotIsInstance(node, (ast.Div, ast.GeneratorExp, ast.AnnAssign, ast.Global), name)
                if isinstance(node, ast.Constant):
                    self.assertNotIsInstance(node.value, (float, complex), name)


def nodes(*kinds):
    """All nodes of these kinds in all files, each with the name of its file."""
    for name, text in sources():
        for node in ast.walk(ast.parse(text)):
            if isinstance(node, kinds):
                yield name, node


def is_call(node, names):
    return isinstance(node, ast.Call) and isinstance(node.func, ast.Name) and node.func.id in names


def own_classes():
    return {node.name: node for name, node in nodes(ast.ClassDef)}


def is_error(name):
    """Whether a class derives from an error of Python's own."""
    bases = own_classes()
    while name in bases:
        if not bases[name].bases:
            return False
        name = bases[name].bases[0].id
    return issubclass(getattr(builtins, name), Exception)


def decorators(node):
    return [item.id if isinstance(item, ast.Name) else item.attr for item in node.decorator_list]


class ClassesTest(unittest.TestCase):
    def methods(self):
        """The names of all methods, properties and class values, and of all attributes that are assigned."""
        methods, properties, values, attributes = set(), set(), set(), set()
        for name, node in nodes(ast.ClassDef):
            for item in node.body:
                if isinstance(item, ast.FunctionDef):
                    kept = properties if {"property", "setter"} & set(decorators(item)) else methods
                    kept.add(item.name)
                if isinstance(item, ast.Assign):
                    values.update(target.id for target in item.targets)
        for name, node in nodes(ast.Attribute):
            if isinstance(node.ctx, ast.Store) and node.attr not in properties:
                attributes.add(node.attr)
        return methods, properties, values, attributes

    def test_names_mean_one_thing(self):
        kept = self.methods()
        for at, names in enumerate(kept):
            for others in kept[at + 1:]:
                self.assertEqual(names & others, set())
        self.assertEqual(kept[3] & NO_ATTRIBUTES, set())
        builtin = {name for kind in (str, int, list, dict, set, bytes, tuple) for name in dir(kind)}
        self.assertEqual((kept[0] - DOUBLE) & builtin, {"copy"})
        self.assertEqual(kept[1] & builtin, set())
        self.assertEqual(kept[3] & builtin, {"index"})

    def test_attributes_that_are_read(self):
        methods, properties, values, attributes = self.methods()
        for name, node in nodes(ast.Attribute):
            self.assertIn(node.attr, METHODS | {"setter"} | methods | properties | values | attributes, name)

    def test_double_underscores(self):
        for name, node in nodes(ast.FunctionDef):
            if node.name.startswith("_"):
                self.assertIn(node.name, DOUBLE, name)
        for name, node in nodes(ast.Attribute):
            if node.attr.startswith("_"):
                self.assertEqual(node.attr, "__init__", name)
        for name, node in nodes(ast.Name):
            self.assertFalse(node.id.startswith("_"), (name, node.id))

    def test_decorators(self):
        for name, node in nodes(ast.FunctionDef):
            for item in node.decorator_list:
                if isinstance(item, ast.Attribute):
                    self.assertEqual((item.value.id, item.attr), (node.name, "setter"))
                else:
                    self.assertIn(item.id, DECORATORS)

    def test_what_is_read_changes_nothing(self):
        """Operators and properties assign nothing, and only raise or return."""
        for name, node in nodes(ast.FunctionDef):
            if (node.name in DOUBLE and node.name not in ("__init__", "__call__")) or "property" in decorators(node):
                for item in ast.walk(node):
                    self.assertNotIsInstance(item, (ast.Assign, ast.AugAssign, ast.Delete, ast.For, ast.While), node.name)

    def test_class_values(self):
        for name, node in nodes(ast.ClassDef):
            for item in node.body:
                self.assertIsInstance(item, (ast.FunctionDef, ast.Assign, ast.Expr), name)
                if isinstance(item, ast.Assign):
                    ast.literal_eval(item.value)

    def test_super(self):
        for name, node in nodes(ast.Call):
            if is_call(node, {"super"}):
                self.assertEqual((node.args, node.keywords), ([], []))

    def test_super_calls_methods(self):
        """Each super() calls a method that is not static or of the class, in such a method itself."""
        barred = {"staticmethod", "classmethod", "property", "setter"}
        plain = {node.name for name, node in nodes(ast.FunctionDef) if not barred & set(decorators(node))}
        called = [item.func for name, item in nodes(ast.Call) if isinstance(item.func, ast.Attribute)]
        called = [item.attr for item in called if is_call(item.value, {"super"})]
        self.assertEqual(len(called), len([item for name, item in nodes(ast.Call) if is_call(item, {"super"})]))
        self.assertEqual([item for item in called if item not in plain or (item in DOUBLE and item != "__init__")], [])
        for name, node in nodes(ast.FunctionDef):
            if [item for item in ast.walk(node) if is_call(item, {"super"})]:
                self.assertFalse({"staticmethod", "classmethod"} & set(decorators(node)), node.name)
                self.assertEqual([item for item in ast.walk(node) if isinstance(item, (ast.Lambda, ast.ListComp))], [], name)

    def test_methods_of_a_logged_desk_stand_in_its_body(self):
        body = {item.name for item in own_classes()["LoggedDesk"].body if isinstance(item, ast.FunctionDef)}
        self.assertLessEqual({"change", "grow", "shrink", "undo", "run"}, body)


class CallsTest(unittest.TestCase):
    def test_sorted_numbers_and_texts(self):
        """Desks have an order, so what is sorted or compared by min and max is plainly numbers or texts."""
        for name, node in nodes(ast.Call):
            if is_call(node, {"sorted"}):
                self.assertIsInstance(node.args[0], ast.ListComp)
                self.assertTrue(is_call(node.args[0].elt, {"str", "len", "int"}), name)
            if is_call(node, {"min", "max"}):
                plain = [item for item in node.args if is_call(item, {"len", "int", "str"}) or isinstance(item, ast.Constant)]
                self.assertNotEqual(plain, [], name)

    def test_lists_are_passed(self):
        for name, node in nodes(ast.Call):
            if is_call(node, {"any", "all", "sum"}):
                self.assertIsInstance(node.args[0], ast.ListComp, name)

    def test_isinstance(self):
        for name, node in nodes(ast.Call):
            if is_call(node, {"isinstance"}):
                kinds = node.args[1].elts if isinstance(node.args[1], ast.Tuple) else [node.args[1]]
                for kind in kinds:
                    self.assertIn(kind.id, KINDS | set(own_classes()), name)

    def test_is(self):
        for name, node in nodes(ast.Compare):
            for sign, right in zip(node.ops, node.comparators):
                if isinstance(sign, (ast.Is, ast.IsNot)):
                    self.assertIsInstance(right, ast.Constant)
                    self.assertIn(repr(right.value), ("None", "True", "False"), name)


class ErrorsTest(unittest.TestCase):
    def test_own_errors_are_caught(self):
        for name, node in nodes(ast.ExceptHandler):
            kinds = node.type.elts if isinstance(node.type, ast.Tuple) else [node.type]
            for kind in kinds:
                self.assertIn(kind.id, own_classes(), name)
                self.assertTrue(is_error(kind.id), kind.id)

    def test_errors_are_created_on_the_spot(self):
        for name, node in nodes(ast.Raise):
            self.assertIsInstance(node.exc, ast.Call, name)
            self.assertTrue(node.exc.func.id == "TypeError" or is_error(node.exc.func.id), name)

    def test_finally(self):
        """Only names, attributes and literals are assigned there."""
        for name, node in nodes(ast.Try):
            for item in node.finalbody:
                self.assertIsInstance(item, ast.Assign, name)
                for inner in ast.walk(item):
                    self.assertNotIsInstance(inner, (ast.Call, ast.Subscript, ast.Compare, ast.UnaryOp, ast.Dict), name)


class ImportsTest(unittest.TestCase):
    def test_names_come_from_the_file_that_defines_them(self):
        trees = {name[:-3]: ast.parse(text) for name, text in sources()}
        for name, node in nodes(ast.ImportFrom):
            defined = set()
            for item in trees[node.module.split(".")[1]].body:
                if isinstance(item, (ast.FunctionDef, ast.ClassDef)):
                    defined.add(item.name)
                if isinstance(item, ast.Assign):
                    defined.update(target.id for target in item.targets)
            for alias in node.names:
                self.assertIn(alias.name, defined, (name, node.module))
                self.assertIsNone(alias.asname)

    def test_names_are_used(self):
        for name, text in sources():
            tree = ast.parse(text)
            used = {node.id for node in ast.walk(tree) if isinstance(node, ast.Name)}
            for node in ast.walk(tree):
                if isinstance(node, ast.ImportFrom):
                    self.assertEqual([alias.name for alias in node.names if alias.name not in used], [], name)

    def test_no_circle(self):
        above = {name[:-3]: set() for name, text in sources()}
        for name, node in nodes(ast.ImportFrom):
            above[name[:-3]].add(node.module.split(".")[1])
        while above:
            free = [name for name in above if not above[name]]
            self.assertNotEqual(free, [], above)
            above = {name: rest - set(free) for name, rest in above.items() if name not in free}

    def test_names_are_bound_once(self):
        for name, text in sources():
            bound = []
            for item in ast.parse(text).body:
                if isinstance(item, (ast.FunctionDef, ast.ClassDef)):
                    bound.append(item.name)
                if isinstance(item, ast.ImportFrom):
                    bound.extend(alias.name for alias in item.names)
                if isinstance(item, ast.Assign):
                    bound.extend(target.id for target in item.targets)
            self.assertEqual(len(bound), len(set(bound)), name)


if __name__ == "__main__":
    unittest.main()
