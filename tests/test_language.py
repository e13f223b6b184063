"""Holds the files of the package against those rules of the language that a look at each file can decide."""

import ast
import builtins
import pathlib
import re
import tokenize
import unittest

PACKAGE = pathlib.Path(__file__).resolve().parent.parent / "openqueues"

STATEMENTS = (
    ast.Assign, ast.AugAssign, ast.If, ast.While, ast.For, ast.Return, ast.Break, ast.Continue,
    ast.Pass, ast.Raise, ast.Try, ast.Expr, ast.FunctionDef, ast.ClassDef, ast.ImportFrom,
)
EXPRESSIONS = (
    ast.BoolOp, ast.BinOp, ast.UnaryOp, ast.Lambda, ast.IfExp, ast.Dict, ast.ListComp, ast.Compare,
    ast.Call, ast.JoinedStr, ast.FormattedValue, ast.Constant, ast.Attribute, ast.Subscript,
    ast.Name, ast.List, ast.Tuple, ast.Slice,
)
TOP = (ast.Expr, ast.ImportFrom, ast.FunctionDef, ast.ClassDef, ast.Assign)
OWN_OF_PYTHON = set(
    "len range enumerate zip min max sum abs sorted reversed int str bool list tuple dict set frozenset "
    "isinstance ord repr any all divmod Exception ValueError TypeError KeyError IndexError LookupError "
    "ZeroDivisionError ArithmeticError OverflowError RuntimeError NotImplementedError AttributeError "
    "StopIteration".split())
METHODS_OF_PYTHON = set(
    "append clear copy count endswith extend find get index insert isalnum isalpha isdigit islower isspace "
    "isupper items join keys ljust lower lstrip partition pop remove replace reverse rfind rjust rpartition "
    "rsplit rstrip setdefault split splitlines startswith strip update upper values zfill bit_length".split())
NEVER = set(
    "register mro elements open input version_info with_traceback add_note format format_map attrgetter "
    "breakpoint compile copyright credits delattr dir eval exec exit gc getattr globals hasattr help id "
    "importlib license locals methodcaller os quit setattr super type vars sys typing typing_extensions enum "
    "Enum IntEnum StrEnum Flag IntFlag Generic Protocol ABC ABCMeta namedtuple NamedTuple TypedDict "
    "TYPE_CHECKING abstractmethod dataclass overload contextmanager".split()) | {"builtins"}
TWO_UNDERSCORES = {"__init__", "__eq__", "__repr__", "__str__", "__len__", "__name__", "__all__", "__version__"}


def plain(value):
    """A value without a list or dict in it."""
    if isinstance(value, ast.UnaryOp) and isinstance(value.op, ast.USub):
        return plain(value.operand)
    if isinstance(value, ast.Tuple):
        return all(plain(part) for part in value.elts)
    return isinstance(value, (ast.Constant, ast.Name))


def parts(value):
    """What a list or dict of a file's top holds; another value is its own one part."""
    if isinstance(value, ast.List):
        return value.elts
    if isinstance(value, ast.Dict):
        return value.keys + value.values
    return [value]


def words(node):
    """All names that a node uses or gives."""
    found = []
    for field in ("id", "attr", "name", "arg"):
        if isinstance(getattr(node, field, None), str):
            found.append(getattr(node, field))
    return found


def bound(tree):
    """The names that are parameters, locals, defs, classes or imports somewhere in the file."""
    found = {node.id for node in ast.walk(tree) if isinstance(node, ast.Name) and isinstance(node.ctx, ast.Store)}
    found |= {node.arg for node in ast.walk(tree) if isinstance(node, ast.arg)}
    found |= {node.name for node in ast.walk(tree) if isinstance(node, (ast.FunctionDef, ast.ClassDef))}
    return found | imported(tree)


def imported(tree):
    return {alias.name for node in tree.body if isinstance(node, ast.ImportFrom) for alias in node.names}


def is_docstring(node):
    return isinstance(node, ast.Expr) and isinstance(node.value, ast.Constant) and isinstance(node.value.value, str)


class Language(unittest.TestCase):
    def setUp(self):
        self.paths = [path for path in sorted(PACKAGE.iterdir()) if path.name != "__pycache__"]
        self.trees = {path.stem: ast.parse(path.read_text("utf-8")) for path in self.paths}

    def each(self):
        for stem, tree in self.trees.items():
            for node in ast.walk(tree):
                yield (f"{stem}:{getattr(node, 'lineno', 0)}", node)

    def test_the_files(self):
        self.assertIn("__init__", self.trees)
        for path in self.paths:
            self.assertRegex(path.name, r"\A[a-z_][a-z0-9_]*\.py\Z")
            self.assertFalse(path.stem in dir(builtins) or path.stem in NEVER, path.name)
            self.assertFalse(re.match(r"(test|tests|testing|test_.*|site|conftest|sitecustomize|usercustomize)\Z",
                                      path.stem), path.name)

    def test_the_signs_and_sizes(self):
        for path in self.paths:
            text = path.read_text("utf-8")
            self.assertEqual(set(re.findall(r"[^ -~\n]", text)), set(), path.name)
            self.assertLessEqual(len(text.splitlines()), 399, path.name)
            self.assertLessEqual(max(len(row) for row in text.splitlines()), 120, path.name)
        for where, node in self.each():
            if isinstance(node, ast.FunctionDef):
                self.assertLessEqual(node.end_lineno - node.lineno + 1, 40, where)

    def test_the_imports(self):
        drawn = {}
        for stem, tree in self.trees.items():
            drawn[stem] = set()
            for node in [node for node in ast.walk(tree) if isinstance(node, (ast.Import, ast.ImportFrom))]:
                self.assertIsInstance(node, ast.ImportFrom, stem)
                self.assertEqual(node.level, 0, stem)
                package, source = node.module.split(".")
                self.assertEqual(package, "openqueues", stem)
                drawn[stem].add(source)
                given = {name for top in self.trees[source].body for name in self.given_at_top(top)}
                for alias in node.names:
                    self.assertIsNone(alias.asname, stem)
                    self.assertIn(alias.name, given, stem)
        left = dict(drawn)
        while left:
            free = [stem for stem in left if not left[stem] & set(left)]
            self.assertNotEqual(free, [], f"files draw from one another: {sorted(left)}")
            left = {stem: left[stem] for stem in left if stem not in free}

    def given_at_top(self, node):
        if isinstance(node, (ast.FunctionDef, ast.ClassDef)):
            return [node.name]
        if isinstance(node, ast.Assign):
            return [node.targets[0].id]
        return []

    def test_the_top_of_each_file(self):
        for stem, tree in self.trees.items():
            self.assertIsNotNone(ast.get_docstring(tree), stem)
            names = [alias.name for node in tree.body if isinstance(node, ast.ImportFrom) for alias in node.names]
            for node in tree.body:
                self.assertIsInstance(node, TOP, stem)
                names += self.given_at_top(node)
                if isinstance(node, ast.Assign):
                    self.assertTrue(all(plain(part) for part in parts(node.value)), f"{stem}:{node.lineno}")
            self.assertEqual(len(names), len(set(names)), stem)

    def test_the_statements_and_expressions(self):
        for where, node in self.each():
            if isinstance(node, ast.stmt):
                self.assertIsInstance(node, STATEMENTS, where)
            if isinstance(node, ast.expr):
                self.assertIsInstance(node, EXPRESSIONS, where)
            if isinstance(node, (ast.For, ast.While)):
                self.assertEqual(node.orelse, [], where)
            if isinstance(node, ast.Assign):
                self.assertEqual(len(node.targets), 1, where)
            if isinstance(node, ast.Expr):
                self.assertTrue(isinstance(node.value, ast.Call) or is_docstring(node), where)
            if isinstance(node, ast.ListComp):
                self.assertEqual(len(node.generators), 1, where)
                self.assertLessEqual(len(node.generators[0].ifs), 1, where)
            if isinstance(node, ast.BinOp):
                self.assertNotIsInstance(node.op, (ast.Div, ast.MatMult), where)
            if isinstance(node, ast.BinOp) and isinstance(node.op, ast.Pow):
                self.assertIn(getattr(node.right, "value", None), range(65), where)
            if isinstance(node, ast.Constant):
                self.assertNotIsInstance(node.value, (float, complex, bytes), where)
            if isinstance(node, ast.Compare) and any(isinstance(op, (ast.Is, ast.IsNot)) for op in node.ops):
                self.assertIn(getattr(node.comparators[0], "value", 0), (None, True, False), where)

    def test_the_functions_and_classes(self):
        methods = set()
        values = set()
        for where, node in self.each():
            if isinstance(node, ast.FunctionDef):
                self.assertEqual(node.decorator_list, [], where)
                self.assertIsNone(node.returns, where)
                self.assertFalse(node.args.vararg or node.args.kwarg or node.args.kwonlyargs, where)
                self.assertFalse(any(parameter.annotation for parameter in node.args.args), where)
            if isinstance(node, ast.ClassDef):
                self.assertFalse(node.decorator_list or node.keywords or len(node.bases) > 1, where)
                self.assertTrue(all(isinstance(part, ast.FunctionDef) for part in node.body), where)
                methods |= {part.name for part in node.body}
            if isinstance(node, ast.Attribute) and isinstance(node.ctx, ast.Store):
                self.assertIsInstance(node.value, ast.Name, where)
                values.add(node.attr)
        self.assertEqual(methods & values, set())
        for name in (methods | values) - {"__init__"}:
            for kind in (str, int, list, tuple, dict, set, bytes):
                self.assertFalse(hasattr(kind, name), name)

    def test_the_names(self):
        for stem, tree in self.trees.items():
            own = bound(tree)
            classes = {node.name for node in tree.body if isinstance(node, ast.ClassDef)}
            inside = {node.arg for node in ast.walk(tree) if isinstance(node, ast.arg)}
            inside |= own - {name for node in tree.body for name in self.given_at_top(node)} - imported(tree)
            self.assertEqual(inside & (classes | imported(tree)), set(), stem)
            for name in own - {"__init__"}:
                self.assertFalse(hasattr(builtins, name), f"{stem}: {name}")
            for node in ast.walk(tree):
                for word in words(node):
                    self.assertNotIn(word, NEVER, stem)
                    self.assertTrue(re.match(r"[A-Za-z][A-Za-z0-9_]*\Z", word) or word in TWO_UNDERSCORES, word)
                if isinstance(node, ast.Name) and isinstance(node.ctx, ast.Load):
                    self.assertIn(node.id, own | OWN_OF_PYTHON, stem)

    def test_the_methods_that_are_called(self):
        own = {part.name for tree in self.trees.values() for node in tree.body
               if isinstance(node, ast.ClassDef) for part in node.body}
        for where, node in self.each():
            if isinstance(node, ast.Call) and isinstance(node.func, ast.Attribute):
                self.assertIn(node.func.attr, own | METHODS_OF_PYTHON, where)

    def test_the_lists_of_a_file_s_top_are_only_read(self):
        kept = {}
        for stem, tree in self.trees.items():
            kept[stem] = {node.targets[0].id for node in tree.body if isinstance(node, ast.Assign)
                          and isinstance(node.value, (ast.List, ast.Tuple, ast.Dict))}
        for stem, tree in self.trees.items():
            names = kept[stem] | {alias.name for node in tree.body if isinstance(node, ast.ImportFrom)
                                  for alias in node.names if alias.name in kept[node.module.split(".")[1]]}
            read = [node.value for node in ast.walk(tree)
                    if isinstance(node, ast.Subscript) and isinstance(node.ctx, ast.Load)]
            read += [node.iter for node in ast.walk(tree) if isinstance(node, (ast.For, ast.comprehension))]
            for node in ast.walk(tree):
                if isinstance(node, ast.Name) and isinstance(node.ctx, ast.Load) and node.id in names:
                    self.assertTrue(any(node is other for other in read), f"{stem}:{node.lineno} {node.id}")

    def test_python_s_own_are_called_where_they_stand(self):
        for stem, tree in self.trees.items():
            called = [node.func for node in ast.walk(tree) if isinstance(node, ast.Call)]
            for node in ast.walk(tree):
                if isinstance(node, ast.Name) and node.id in OWN_OF_PYTHON:
                    self.assertTrue(any(node is other for other in called), f"{stem}:{node.lineno} {node.id}")
                if isinstance(node, ast.Call):
                    self.assertEqual([word.arg for word in node.keywords], [], f"{stem}:{node.lineno}")

    def test_what_is_walked_at_once(self):
        for where, node in self.each():
            for part in ast.iter_child_nodes(node):
                if isinstance(part, ast.Call) and isinstance(part.func, ast.Name) and (
                        part.func.id in ("zip", "enumerate", "reversed", "range")):
                    walked = isinstance(node, (ast.For, ast.comprehension)) or (
                        isinstance(node, ast.Call) and node.args[0] is part and node.func.id in (
                            "list", "tuple", "dict", "sorted", "sum", "any", "all", "enumerate", "zip", "min", "max"))
                    self.assertTrue(walked, where)

    def test_lambdas_stand_on_lines_of_their_own(self):
        for stem, tree in self.trees.items():
            rows = [node.lineno for node in ast.walk(tree) if isinstance(node, ast.Lambda)]
            self.assertEqual(len(rows), len(set(rows)), stem)

    def test_the_texts(self):
        for path in self.paths:
            with tokenize.open(path) as rows:
                for token in tokenize.generate_tokens(rows.readline):
                    if token.type == tokenize.STRING:
                        self.assertNotIn("%", token.string, path.name)
                        self.assertNotRegex(token.string, r"\\[^nt\\'\"]", path.name)

    def test_the_interface(self):
        found = [node for node in self.trees["network"].body
                 if isinstance(node, ast.FunctionDef) and node.name == "answers"]
        self.assertEqual([parameter.arg for parameter in found[0].args.args], ["calls"])
        self.assertEqual(found[0].args.defaults, [])
        for stem, tree in self.trees.items():
            if stem != "network":
                self.assertNotIn("answers", [name for node in tree.body for name in self.given_at_top(node)])


if __name__ == "__main__":
    unittest.main()
