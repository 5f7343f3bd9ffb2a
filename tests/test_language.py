"""The package's files keep to the part of Python that LANGUAGE.md tells: what can be seen from a file's form."""

import ast
import builtins
import pathlib
import re
import unittest

PACKAGE = pathlib.Path(__file__).resolve().parent.parent / "groundtower"
FILES = sorted(PACKAGE.rglob("*.py"))

STATEMENTS = (ast.Assign, ast.AugAssign, ast.If, ast.While, ast.For, ast.Return, ast.Break, ast.Continue, ast.Pass,
              ast.Raise, ast.Try, ast.Expr, ast.FunctionDef, ast.ClassDef, ast.ImportFrom)
EXPRESSIONS = (ast.BinOp, ast.UnaryOp, ast.BoolOp, ast.Compare, ast.IfExp, ast.Call, ast.Attribute, ast.Subscript,
               ast.Slice, ast.ListComp, ast.JoinedStr, ast.FormattedValue, ast.Constant, ast.List, ast.Tuple, ast.Dict,
               ast.Name, ast.Lambda)
OWN_NAMES = set("""len range enumerate zip min max sum abs sorted reversed int str bool list tuple dict set frozenset
    isinstance ord repr any all divmod Exception ValueError TypeError KeyError IndexError LookupError
    ZeroDivisionError ArithmeticError OverflowError RuntimeError NotImplementedError AttributeError
    StopIteration""".split())
OWN_METHODS = set("""append clear copy count endswith extend find get index insert isalnum isalpha isdigit islower
    isspace isupper items join keys ljust lower lstrip partition pop remove replace reverse rfind rjust rpartition
    rsplit rstrip setdefault split splitlines startswith strip update upper values zfill bit_length""".split())
WORDS = set("""type typing typing_extensions enum Enum IntEnum StrEnum Flag IntFlag Generic Protocol ABC ABCMeta
    namedtuple NamedTuple TypedDict TYPE_CHECKING abstractmethod""".split())
NOT_NAMES = set("""register mro elements open input version_info with_traceback add_note format format_map attrgetter
    breakpoint builtins compile copyright credits delattr dir eval exec exit gc getattr globals hasattr help id
    importlib license locals methodcaller os quit setattr super vars sys print chr""".split())


def bound_names(node):
    """The names that a node gives a value to."""
    if isinstance(node, ast.Name) and isinstance(node.ctx, ast.Store):
        return [node.id]
    if isinstance(node, ast.arg):
        return [node.arg]
    if isinstance(node, (ast.FunctionDef, ast.ClassDef)):
        return [node.name]
    return []


class FormTest(unittest.TestCase):
    def each_node(self):
        for path in FILES:
            for node in ast.walk(ast.parse(path.read_text())):
                yield f"{path.name}:{getattr(node, 'lineno', 0)}", node

    def test_files(self):
        self.assertIn(PACKAGE / "ground.py", FILES)
        self.assertIn(PACKAGE / "__init__.py", FILES)
        for path in PACKAGE.rglob("*"):
            if "__pycache__" not in path.parts:
                self.assertRegex(path.name, r"^([a-z][a-z0-9_]*|__init__)\.py$")
                self.assertNotIn(path.stem, dir(builtins))

    def test_signs_and_sizes(self):
        for path in FILES:
            text = path.read_text()
            self.assertRegex(text, r"\A[ -~\n]*\Z", path)
            self.assertLessEqual(len(text.splitlines()), 400, path)
            self.assertLessEqual(max(len(row) for row in text.splitlines()), 120, path)
            for word in re.findall(r"\w+", text):
                self.assertNotIn(word, WORDS, path)
                self.assertIsNone(re.search("dataclass|overload|contextmanager", word), path)

    def test_statements_and_expressions(self):
        for where, node in self.each_node():
            if isinstance(node, ast.stmt):
                self.assertIsInstance(node, STATEMENTS, where)
            if isinstance(node, ast.expr):
                self.assertIsInstance(node, EXPRESSIONS, where)
            if isinstance(node, (ast.For, ast.While)):
                self.assertEqual(node.orelse, [], where)
            if isinstance(node, ast.Assign):
                self.assertEqual([isinstance(target, ast.Tuple) for target in node.targets], [False], where)
            if isinstance(node, ast.Constant):
                self.assertIn(type(node.value), (int, str, bool, type(None)), where)
            if isinstance(node, ast.BinOp):
                self.assertNotIsInstance(node.op, (ast.Div, ast.Pow, ast.MatMult), where)
            if isinstance(node, ast.ListComp):
                self.assertEqual(len(node.generators), 1, where)

    def test_functions_and_classes(self):
        for where, node in self.each_node():
            if isinstance(node, (ast.FunctionDef, ast.ClassDef)):
                self.assertEqual(node.decorator_list, [], where)
            if isinstance(node, ast.FunctionDef):
                self.assertLessEqual(node.end_lineno - node.lineno + 1, 40, where)
                self.assertEqual((node.args.vararg, node.args.kwarg, node.args.kwonlyargs), (None, None, []), where)
            if isinstance(node, ast.ClassDef):
                self.assertEqual({type(part) for part in node.body}, {ast.FunctionDef}, where)

    def test_names(self):
        for where, node in self.each_node():
            for name in bound_names(node):
                self.assertRegex(name, r"^([A-Za-z][A-Za-z0-9_]*|__init__)$", where)
                self.assertNotIn(name, dir(builtins), where)
            if isinstance(node, ast.Name):
                self.assertFalse(node.id in dir(builtins) and node.id not in OWN_NAMES, where)
                self.assertNotIn(node.id, NOT_NAMES, where)

    def test_methods(self):
        own = {node.name for where, node in self.each_node() if isinstance(node, ast.FunctionDef)}
        own |= {node.attr for where, node in self.each_node()
                if isinstance(node, ast.Attribute) and isinstance(node.ctx, ast.Store)}
        for where, node in self.each_node():
            if isinstance(node, ast.Attribute):
                self.assertIn(node.attr, own | OWN_METHODS, where)
                self.assertNotIn(node.attr, NOT_NAMES, where)

    def test_no_name_is_a_method_here_and_a_value_there(self):
        methods = {part.name for where, node in self.each_node() if isinstance(node, ast.ClassDef)
                   for part in node.body}
        kept = {node.attr for where, node in self.each_node()
                if isinstance(node, ast.Attribute) and isinstance(node.ctx, ast.Store)}
        self.assertEqual(methods & kept, set())
        for name in methods | kept:
            for own in (str, int, list, dict, set, bytes):
                self.assertFalse(name in dir(own) and name not in ("__init__",), name)

    def test_no_local_is_called_like_a_class_or_an_import(self):
        for path in FILES:
            nodes = list(ast.walk(ast.parse(path.read_text())))
            taken = {alias.name for node in nodes if isinstance(node, ast.ImportFrom) for alias in node.names}
            taken |= {node.name for node in nodes if isinstance(node, ast.ClassDef)}
            for node in nodes:
                if isinstance(node, ast.FunctionDef):
                    inner = {name for part in ast.walk(node) for name in bound_names(part) if part is not node}
                    self.assertEqual(inner & taken, set(), f"{path.name}:{node.lineno}")

    def test_imports(self):
        drawn = {}
        for path in FILES:
            rows = [node for node in ast.walk(ast.parse(path.read_text())) if isinstance(node, ast.ImportFrom)]
            drawn[path.stem] = [node.module.removeprefix("groundtower.") for node in rows]
            for node in rows:
                self.assertTrue(node.module.startswith("groundtower."), path)
                defined = ast.parse((PACKAGE / f"{drawn[path.stem][rows.index(node)]}.py").read_text()).body
                names = {name for part in defined for inner in [part] + getattr(part, "targets", [])
                         for name in bound_names(inner)}
                self.assertLessEqual({alias.name for alias in node.names}, names, path)
        while drawn:
            free = [stem for stem in drawn if not set(drawn[stem]) & set(drawn)]
            self.assertTrue(free, f"these draw from one another: {sorted(drawn)}")
            for stem in free:
                drawn.pop(stem)


if __name__ == "__main__":
    unittest.main()
