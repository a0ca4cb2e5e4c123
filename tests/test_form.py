"""The package's files keep to the small part of Python they are written in."""

import ast
import builtins
import re
import unittest
from pathlib import Path

PACKAGE = Path(__file__).resolve().parent.parent / "pairsthathold"
FILES = sorted(PACKAGE.glob("*.py"))

# No error is raised or taken: a refusal is an answer like others. No set is made either.
STATEMENTS = (ast.FunctionDef, ast.ClassDef, ast.ImportFrom, ast.Assign, ast.AugAssign, ast.If, ast.While, ast.For,
              ast.Return, ast.Break, ast.Continue, ast.Pass, ast.Expr)
EXPRESSIONS = (ast.BoolOp, ast.BinOp, ast.UnaryOp, ast.Lambda, ast.IfExp, ast.Dict, ast.ListComp, ast.Compare,
               ast.Call, ast.Constant, ast.Attribute, ast.Subscript, ast.Name, ast.List, ast.Tuple, ast.Slice,
               ast.JoinedStr, ast.FormattedValue)
OWN_NAMES = """len range enumerate zip min max sum abs sorted reversed int str bool list tuple dict isinstance ord repr
    any all divmod""".split()
KEYWORDS = {"sorted": ["key", "reverse"], "min": ["key", "default"], "max": ["key", "default"], "sum": ["start"],
            "enumerate": ["start"], "zip": ["strict"]}
WALKED_AT_ONCE = "zip enumerate reversed range items keys values".split()
WALKERS = "list tuple dict sorted sum any all enumerate zip min max".split()
UNUSED = """register mro elements open input version_info with_traceback add_note attrgetter breakpoint builtins compile
    copyright credits delattr dir eval exec exit gc getattr globals hasattr help id importlib license locals
    methodcaller os quit setattr super vars sys format format_map chr print""".split()
WORDS = """type typing typing_extensions enum Enum IntEnum StrEnum Flag IntFlag Generic Protocol ABC ABCMeta
    namedtuple NamedTuple TypedDict TYPE_CHECKING abstractmethod""".split()
METHODS = """append clear copy count endswith extend find get index insert isalnum isalpha isdigit islower isspace
    isupper items join keys ljust lower lstrip partition pop remove replace reverse rfind rjust rpartition rsplit
    rstrip setdefault split splitlines startswith strip update upper values zfill bit_length""".split()
CHANGING = "append clear extend insert pop remove reverse setdefault update".split()
PLAIN = re.compile(r"[A-Za-z][A-Za-z0-9_]*|__init__|__eq__|__repr__|__str__|__len__")


def bound_names(tree):
    """All names that are given a meaning, wherever."""
    found = []
    for node in ast.walk(tree):
        if isinstance(node, (ast.FunctionDef, ast.ClassDef)):
            found.append(node.name)
        elif isinstance(node, ast.arg):
            found.append(node.arg)
        elif isinstance(node, (ast.Name, ast.Attribute)) and isinstance(node.ctx, ast.Store):
            found.append(node.id if isinstance(node, ast.Name) else node.attr)
    return found


class Form(unittest.TestCase):
    def setUp(self):
        self.trees = {path.stem: ast.parse(path.read_text()) for path in FILES}

    def nodes(self, *kinds):
        for name, tree in self.trees.items():
            for node in ast.walk(tree):
                if isinstance(node, kinds):
                    yield f"{name}.py:{getattr(node, 'lineno', 0)}", node

    def test_files(self):
        lying = [path for path in PACKAGE.iterdir() if path.name != "__pycache__"]
        self.assertEqual(sorted(lying), FILES)
        self.assertIn(PACKAGE / "__init__.py", FILES)
        for path in FILES:
            self.assertRegex(path.stem, r"^(__init__|[a-z][a-z0-9_]*)$")
            self.assertFalse(path.stem in vars(builtins) or path.stem.startswith("test"))

    def test_signs_and_size(self):
        for path in FILES:
            lines = path.read_text().split("\n")
            self.assertLessEqual(len(lines), 400)
            for line in lines:
                self.assertRegex(line, r"^[ -~]{0,120}$")

    def test_functions_are_short_and_plain(self):
        for where, node in self.nodes(ast.FunctionDef):
            self.assertLessEqual(node.end_lineno - node.lineno + 1, 40, where)
            given = node.args
            self.assertFalse(node.decorator_list or given.vararg or given.kwarg or given.kwonlyargs, where)
            self.assertFalse(given.posonlyargs or node.returns or any(arg.annotation for arg in given.args), where)

    def test_classes_are_plain(self):
        for where, node in self.nodes(ast.ClassDef):
            self.assertFalse(node.decorator_list or node.keywords or len(node.bases) > 1, where)
            for part in node.body:
                self.assertIsInstance(part, (ast.FunctionDef, ast.Expr), where)

    def test_statements_and_expressions(self):
        for where, node in self.nodes(ast.stmt):
            self.assertIsInstance(node, STATEMENTS, where)
            if isinstance(node, (ast.For, ast.While)):
                self.assertEqual(node.orelse, [], where)
            if isinstance(node, ast.Assign):
                self.assertEqual(len(node.targets), 1, where)
            if isinstance(node, ast.Expr):
                self.assertIsInstance(node.value, (ast.Call, ast.Constant), where)
        for where, node in self.nodes(ast.expr):
            self.assertIsInstance(node, EXPRESSIONS, where)
            if isinstance(node, ast.Constant):
                self.assertIsInstance(node.value, (int, str, bool, type(None)), where)
            if isinstance(node, ast.FormattedValue):
                self.assertIsInstance(node.value, ast.Name, where)
                self.assertIsNone(node.format_spec, where)
            if isinstance(node, ast.ListComp):
                self.assertEqual(len(node.generators), 1, where)
                self.assertLessEqual(len(node.generators[0].ifs), 1, where)
            if isinstance(node, ast.Compare):
                for sign, other in zip(node.ops, node.comparators):
                    if isinstance(sign, (ast.Is, ast.IsNot)):
                        self.assertIn(ast.unparse(other), ("None", "True", "False"), where)
        for where, node in self.nodes(ast.Div, ast.MatMult, ast.Pow, ast.Starred):
            self.fail(where)

    def test_own_names_are_called_as_they_may_be(self):
        called = [node.func for where, node in self.nodes(ast.Call)]
        keys = [node.value for where, node in self.nodes(ast.keyword)]
        for where, node in self.nodes(ast.Name):
            if node.id in OWN_NAMES:
                self.assertTrue(node in called or node in keys, where)
        for where, node in self.nodes(ast.Attribute):
            if node.attr in METHODS:
                self.assertIn(node, called, where)
        for where, node in self.nodes(ast.Call):
            allowed = KEYWORDS.get(node.func.id, []) if isinstance(node.func, ast.Name) else []
            for keyword in node.keywords:
                self.assertIn(keyword.arg, allowed, where)

    def test_walked_at_once(self):
        walked = [node.iter for where, node in self.nodes(ast.For, ast.comprehension)]
        for where, node in self.nodes(ast.Call):
            if isinstance(node.func, ast.Name) and node.func.id in WALKERS:
                walked += node.args[:1]
        for where, node in self.nodes(ast.Call):
            name = node.func.id if isinstance(node.func, ast.Name) else node.func.attr
            if name in WALKED_AT_ONCE:
                self.assertIn(node, walked, where)

    def test_texts(self):
        for path in FILES:
            self.assertNotIn("\\", path.read_text(), path.name)
        for where, node in self.nodes(ast.Constant):
            if isinstance(node.value, str):
                self.assertNotIn("%", node.value, where)

    def test_values_are_given_through_local_names(self):
        methods = [part.name for where, node in self.nodes(ast.ClassDef) for part in node.body
                   if isinstance(part, ast.FunctionDef)]
        self.assertEqual(len(methods), len(set(methods)))
        for where, node in self.nodes(ast.Attribute):
            if isinstance(node.ctx, ast.Store):
                self.assertEqual(ast.unparse(node.value), "self", where)
                self.assertNotIn(node.attr, methods, where)
        for where, node in self.nodes(ast.FunctionDef):
            if node.name == "__init__":
                self.assertFalse(any(isinstance(inner, ast.Return) for inner in ast.walk(node)), where)

    def test_classes_are_called_and_not_handed_on(self):
        classes = [node.name for where, node in self.nodes(ast.ClassDef)]
        called = [node.func for where, node in self.nodes(ast.Call)]
        for where, node in self.nodes(ast.Name):
            if node.id in classes:
                self.assertIn(node, called, where)

    def test_imports(self):
        drawn = {}
        for name, tree in self.trees.items():
            drawn[name] = set()
            for node in ast.walk(tree):
                if isinstance(node, ast.ImportFrom):
                    self.assertIn(node, tree.body)
                    self.assertEqual(node.level, 0)
                    source = node.module.removeprefix("pairsthathold.")
                    self.assertIn(source, self.trees)
                    for alias in node.names:
                        self.assertIsNone(alias.asname)
                        self.assertIn(alias.name, self.top_names(source))
                    drawn[name].add(source)
        while drawn:
            ready = [name for name in drawn if not drawn[name] & set(drawn)]
            self.assertNotEqual(ready, [], "files draw from one another")
            for name in ready:
                drawn.pop(name)

    def top_names(self, name):
        found = []
        for node in self.trees[name].body:
            if isinstance(node, ast.Assign):
                found.append(node.targets[0].id)
            elif isinstance(node, (ast.FunctionDef, ast.ClassDef)):
                found.append(node.name)
        return found

    def test_the_top_of_a_file(self):
        for name, tree in self.trees.items():
            self.assertIsNotNone(ast.get_docstring(tree), name)
            names = self.top_names(name)
            self.assertEqual(len(names), len(set(names)), name)
            for node in tree.body[1:]:
                self.assertIsInstance(node, (ast.ImportFrom, ast.Assign, ast.FunctionDef, ast.ClassDef), name)
                if isinstance(node, ast.Assign):
                    self.assertIsInstance(ast.literal_eval(node.value), (int, str, tuple), name)

    def test_names(self):
        for name, tree in self.trees.items():
            imported = [alias.name for node in tree.body if isinstance(node, ast.ImportFrom) for alias in node.names]
            for bound in bound_names(tree):
                self.assertIsNotNone(PLAIN.fullmatch(bound), (name, bound))
                self.assertFalse(bound in vars(builtins), (name, bound))
                self.assertNotIn(bound, imported, name)
        for where, node in self.nodes(ast.Name):
            if node.id in vars(builtins):
                self.assertIn(node.id, OWN_NAMES, where)
        for where, node in self.nodes(ast.Name, ast.Attribute, ast.FunctionDef, ast.arg):
            for field in ("id", "attr", "name", "arg"):
                self.assertNotIn(getattr(node, field, None), UNUSED, where)

    def test_words_that_stand_nowhere(self):
        for path in FILES:
            text = path.read_text()
            self.assertEqual(set(re.findall(r"\w+", text)) & set(WORDS), set(), path.name)
            self.assertNotRegex(text, "dataclass|overload|contextmanager")

    def test_methods(self):
        own = [part.name for where, node in self.nodes(ast.ClassDef) for part in node.body
               if isinstance(part, ast.FunctionDef)]
        for where, node in self.nodes(ast.Call):
            if isinstance(node.func, ast.Attribute):
                self.assertIn(node.func.attr, METHODS + own, where)
        for name in own + [node.attr for where, node in self.nodes(ast.Attribute) if isinstance(node.ctx, ast.Store)]:
            if not name.startswith("__"):
                self.assertFalse(any(hasattr(kind, name) for kind in (str, int, list, tuple, dict, set, bytes)), name)

    def test_what_a_loop_walks_is_not_changed_in_it(self):
        for where, node in self.nodes(ast.For):
            walked = ast.dump(node.iter)
            for inner in ast.walk(node):
                if isinstance(inner, ast.Call) and isinstance(inner.func, ast.Attribute):
                    if inner.func.attr in CHANGING:
                        self.assertNotEqual(ast.dump(inner.func.value), walked, where)


if __name__ == "__main__":
    unittest.main()
