"""Holds the package's files against the part of Python that the program keeps to."""

import ast
import builtins
import io
import re
import tokenize
import unittest
from pathlib import Path

PACKAGE = Path(__file__).resolve().parent.parent / "landrules"

STATEMENTS = (ast.Assign, ast.AugAssign, ast.If, ast.While, ast.For, ast.Return, ast.Break, ast.Continue, ast.Pass,
              ast.Raise, ast.Try, ast.Expr, ast.FunctionDef, ast.ClassDef, ast.ImportFrom)
EXPRESSIONS = (ast.Constant, ast.List, ast.Tuple, ast.Dict, ast.BinOp, ast.UnaryOp, ast.BoolOp, ast.Compare, ast.IfExp,
               ast.Call, ast.Attribute, ast.Subscript, ast.Slice, ast.ListComp, ast.Name, ast.Lambda)
NO_OPERATORS = (ast.Div, ast.MatMult)
ALLOWED_BUILTINS = set("""len range enumerate zip min max sum abs sorted reversed int str bool list tuple dict set
    frozenset isinstance ord repr any all divmod Exception ValueError KeyError IndexError LookupError
    ZeroDivisionError ArithmeticError OverflowError RuntimeError NotImplementedError StopIteration""".split())
VALUE_METHODS = set("""append clear copy count endswith extend find get index insert isalnum isalpha isdigit islower
    isspace isupper items join keys ljust lower lstrip partition pop remove replace reverse rfind rjust rpartition
    rsplit rstrip setdefault split splitlines startswith strip update upper values zfill bit_length""".split())
OWN_NAMES_LIKE_VALUES = VALUE_METHODS | {"add", "discard", "title"}
NO_NAMES = set("""register mro elements open input version_info with_traceback add_note attrgetter breakpoint builtins
    compile copyright credits delattr dir eval exec exit gc getattr globals hasattr help id importlib license locals
    methodcaller os quit setattr super vars sys format format_map""".split())
NO_WORDS = set("""type typing typing_extensions enum Enum IntEnum StrEnum Flag IntFlag Generic Protocol ABC ABCMeta
    namedtuple NamedTuple TypedDict TYPE_CHECKING abstractmethod""".split())
CHANGING = set("append clear extend insert pop remove reverse setdefault update".split())
WALKED = {"zip", "enumerate", "reversed", "range"}
WALKERS = {"list", "tuple", "dict", "sorted", "sum", "any", "all", "enumerate", "zip", "min", "max", "reversed"}


def package_files():
    return sorted(PACKAGE.glob("*.py"))


def trees():
    return [(path.name, ast.parse(path.read_text(encoding="utf-8"))) for path in package_files()]


def nodes():
    return [(name, node) for name, tree in trees() for node in ast.walk(tree)]


def is_docstring(tree, node):
    return tree.body and tree.body[0] is node and isinstance(node.value, ast.Constant)


def is_plain_value(node):
    if isinstance(node, ast.UnaryOp):
        return isinstance(node.op, ast.USub) and isinstance(node.operand, ast.Constant)
    if isinstance(node, ast.Tuple):
        return all(is_plain_value(value) for value in node.elts)
    return isinstance(node, ast.Constant)


def inner_names(node):
    """What a loop walks, also through enumerate, zip and the like."""
    if isinstance(node, ast.Call):
        inner = node.args + ([node.func.value] if isinstance(node.func, ast.Attribute) else [])
        return {name for one in inner for name in inner_names(one)}
    return {ast.unparse(node)} if isinstance(node, (ast.Name, ast.Attribute)) else set()


def changed_names(node):
    if isinstance(node, ast.Call) and isinstance(node.func, ast.Attribute) and node.func.attr in CHANGING:
        return {ast.unparse(node.func.value)}
    if isinstance(node, ast.Subscript) and isinstance(node.ctx, ast.Store):
        return {ast.unparse(node.value)}
    return set()


def bound_names(tree):
    names = [node.arg for node in ast.walk(tree) if isinstance(node, ast.arg)]
    names += [node.id for node in ast.walk(tree) if isinstance(node, ast.Name) and isinstance(node.ctx, ast.Store)]
    return names + [node.name for node in ast.walk(tree) if isinstance(node, ast.ExceptHandler) and node.name]


class Files(unittest.TestCase):
    def test_there_is_nothing_but_files_of_code(self):
        others = [path.name for path in PACKAGE.iterdir() if path.name != "__pycache__" and path.suffix != ".py"]
        self.assertEqual(others, [])
        for path in package_files():
            self.assertRegex(path.name, "^(__init__|[a-z][a-z0-9_]*)[.]py$")
            self.assertNotIn(path.stem, dir(builtins))

    def test_size_and_signs(self):
        for path in package_files():
            text = path.read_bytes()
            self.assertEqual([byte for byte in text if byte != 10 and not 32 <= byte <= 126], [], path.name)
            lines = text.decode().split("\n")
            self.assertLessEqual(len(lines), 400, path.name)
            self.assertLessEqual(max(len(line) for line in lines), 120, path.name)

    def test_words_that_stand_nowhere(self):
        for path in package_files():
            text = path.read_text()
            self.assertEqual(set(re.findall("[A-Za-z_0-9]+", text)) & NO_WORDS, set(), path.name)
            self.assertIsNone(re.search("dataclass|overload|contextmanager", text), path.name)

    def test_functions_are_short(self):
        for name, node in nodes():
            if isinstance(node, ast.FunctionDef):
                self.assertLessEqual(node.end_lineno - node.lineno + 1, 40, (name, node.name))


class Top(unittest.TestCase):
    def test_what_stands_at_the_top(self):
        for name, tree in trees():
            bound = []
            for node in tree.body:
                if isinstance(node, ast.Assign):
                    self.assertEqual(len(node.targets), 1)
                    self.assertTrue(is_plain_value(node.value), (name, node.lineno))
                    bound.append(node.targets[0].id)
                elif isinstance(node, (ast.FunctionDef, ast.ClassDef)):
                    bound.append(node.name)
                elif isinstance(node, ast.ImportFrom):
                    bound += [alias.name for alias in node.names]
                else:
                    self.assertTrue(is_docstring(tree, node), (name, node.lineno))
            self.assertEqual(len(bound), len(set(bound)), name)
            outside = [node for node in tree.body if isinstance(node, (ast.ClassDef, ast.ImportFrom))]
            taken = {node.name for node in outside if isinstance(node, ast.ClassDef)}
            taken |= {alias.name for node in outside if isinstance(node, ast.ImportFrom) for alias in node.names}
            self.assertEqual([local for function in tree.body if isinstance(function, (ast.FunctionDef, ast.ClassDef))
                              for local in bound_names(function) if local in taken or local in dir(builtins)], [], name)

    def test_imports_stand_at_the_top_alone(self):
        for name, tree in trees():
            found = [node for node in ast.walk(tree) if isinstance(node, (ast.Import, ast.ImportFrom))]
            self.assertEqual([node for node in found if node not in tree.body], [], name)

    def test_imports(self):
        draws = {}
        for name, tree in trees():
            for node in ast.walk(tree):
                if isinstance(node, ast.ImportFrom):
                    self.assertEqual(node.level, 0)
                    package, module = node.module.split(".")
                    self.assertEqual(package, "landrules")
                    draws.setdefault(name[:-3], set()).add(module)
                    defined = dict(trees())[module + ".py"].body
                    names = [top.name for top in defined if hasattr(top, "name")]
                    names += [top.targets[0].id for top in defined if isinstance(top, ast.Assign)]
                    for alias in node.names:
                        self.assertIsNone(alias.asname)
                        self.assertIn(alias.name, names)
        for start in draws:
            reached = set()
            ahead = set(draws[start])
            while ahead:
                module = ahead.pop()
                reached.add(module)
                ahead |= draws.get(module, set()) - reached
            self.assertNotIn(start, reached)


class Language(unittest.TestCase):
    def test_statements_and_expressions(self):
        for name, tree in trees():
            for node in ast.walk(tree):
                place = (name, getattr(node, "lineno", 0))
                if isinstance(node, ast.stmt):
                    self.assertIsInstance(node, STATEMENTS, place)
                if isinstance(node, ast.expr):
                    self.assertIsInstance(node, EXPRESSIONS, place)
                if isinstance(node, ast.operator):
                    self.assertNotIsInstance(node, NO_OPERATORS, name)
                if isinstance(node, ast.Expr) and not is_docstring(tree, node):
                    self.assertIsInstance(node.value, ast.Call, place)
                if isinstance(node, (ast.While, ast.For)):
                    self.assertEqual(node.orelse, [], place)
                if isinstance(node, ast.Assign):
                    self.assertEqual(len(node.targets), 1, place)
                if isinstance(node, ast.Constant):
                    self.assertIn(node.value.__class__, (int, str, bool, None.__class__), place)
                if isinstance(node, ast.Constant) and isinstance(node.value, str):
                    self.assertNotIn("%", node.value, place)
                if isinstance(node, ast.ListComp):
                    self.assertEqual(len(node.generators), 1, place)
                    self.assertLessEqual(len(node.generators[0].ifs), 1, place)
                if isinstance(node, ast.BinOp) and isinstance(node.op, ast.Pow):
                    self.fail(place)

    def test_functions_and_classes(self):
        for name, node in nodes():
            if isinstance(node, (ast.FunctionDef, ast.ClassDef)):
                self.assertEqual(node.decorator_list, [], (name, node.name))
            if isinstance(node, ast.FunctionDef):
                rest = node.args
                self.assertEqual((rest.vararg, rest.kwarg, rest.kwonlyargs, rest.posonlyargs), (None, None, [], []))
            if isinstance(node, ast.ClassDef):
                self.assertLessEqual(len(node.bases), 1)
                for inner in node.body:
                    self.assertIsInstance(inner, (ast.FunctionDef, ast.Pass), (name, node.name))

    def test_parameters_are_plain(self):
        for name, node in nodes():
            if isinstance(node, ast.arg):
                self.assertIsNone(node.annotation, name)
            if isinstance(node, ast.FunctionDef):
                self.assertIsNone(node.returns, (name, node.name))
                self.assertEqual(node.args.defaults, [], (name, node.name))
            if isinstance(node, ast.FunctionDef) and node.name == "__init__":
                self.assertEqual([inner for inner in ast.walk(node) if isinstance(inner, ast.Return)], [], name)
            if isinstance(node, ast.Call):
                self.assertEqual(node.keywords, [], (name, node.lineno))

    def test_assignments_have_one_plain_target(self):
        for name, node in nodes():
            if isinstance(node, ast.Assign):
                self.assertIsInstance(node.targets[0], (ast.Name, ast.Attribute, ast.Subscript), (name, node.lineno))
            if isinstance(node, ast.For) and isinstance(node.target, ast.Tuple):
                for one in node.target.elts:
                    self.assertIsInstance(one, ast.Name, (name, node.lineno))

    def test_no_sets(self):
        for name, node in nodes():
            if isinstance(node, ast.Name):
                self.assertNotIn(node.id, ("set", "frozenset"), (name, node.lineno))

    def test_what_a_loop_walks_is_not_changed_in_it(self):
        for name, node in nodes():
            if isinstance(node, ast.For):
                changed = {one for inner in ast.walk(node) for one in changed_names(inner)}
                self.assertEqual(inner_names(node.iter) & changed, set(), (name, node.lineno))

    def test_errors(self):
        own = {node.name for name, node in nodes() if isinstance(node, ast.ClassDef) and node.bases}
        for name, node in nodes():
            if isinstance(node, ast.ExceptHandler):
                self.assertIn(node.type.id, own, name)
            if isinstance(node, ast.Try):
                self.assertEqual(node.finalbody, [], name)
            if isinstance(node, ast.Raise):
                self.assertIsInstance(node.exc, ast.Call, name)
            if isinstance(node, ast.Compare):
                for operator, right in zip(node.ops, node.comparators):
                    if isinstance(operator, (ast.Is, ast.IsNot)):
                        self.assertIn(right.value, (None, True, False), name)

    def test_names(self):
        for name, tree in trees():
            for node in ast.walk(tree):
                for found in (getattr(node, "id", None), getattr(node, "attr", None), getattr(node, "arg", None),
                              getattr(node, "name", None)):
                    if isinstance(found, str) and found != "__init__":
                        self.assertRegex(found, "^[A-Za-z][A-Za-z0-9_]*$", name)
                        self.assertNotIn(found, NO_NAMES, name)
                if isinstance(node, ast.Name) and node.id in dir(builtins):
                    self.assertIn(node.id, ALLOWED_BUILTINS, (name, node.lineno))
                    self.assertIsInstance(node.ctx, ast.Load, (name, node.lineno))

    def test_methods_and_values(self):
        methods = set()
        values = set()
        for name, node in nodes():
            if isinstance(node, ast.ClassDef):
                own = [inner.name for inner in node.body if isinstance(inner, ast.FunctionDef)]
                self.assertEqual(len(own), len(set(own)))
                methods |= set(own)
            if isinstance(node, ast.Attribute) and isinstance(node.ctx, ast.Store):
                self.assertIsInstance(node.value, ast.Name, name)
                values.add(node.attr)
        python_own = {own for value in ("", 0, [], {}, set(), b"") for own in dir(value)}
        self.assertEqual(methods & values, set())
        self.assertEqual((methods - {"__init__"}) & python_own - OWN_NAMES_LIKE_VALUES, set())
        self.assertEqual(values & python_own, set())
        for name, tree in trees():
            called = {node.func for node in ast.walk(tree) if isinstance(node, ast.Call)}
            for node in ast.walk(tree):
                if isinstance(node, ast.Attribute):
                    known = values if node not in called else methods | VALUE_METHODS
                    self.assertIn(node.attr, known, (name, node.lineno))

    def test_what_is_walked_is_not_kept(self):
        for name, tree in trees():
            walked = set()
            for node in ast.walk(tree):
                if isinstance(node, (ast.For, ast.comprehension)):
                    walked.add(node.iter)
                if isinstance(node, ast.Call) and isinstance(node.func, ast.Name) and node.func.id in WALKERS:
                    walked |= set(node.args)
            for node in ast.walk(tree):
                if isinstance(node, ast.Call) and isinstance(node.func, ast.Name) and node.func.id in WALKED:
                    self.assertIn(node, walked, (name, node.lineno))

    def test_escapes(self):
        for path in package_files():
            for token in tokenize.generate_tokens(io.StringIO(path.read_text()).readline):
                if token.type == tokenize.STRING:
                    self.assertEqual(re.sub(r"\\[nt\\'\"]", "", token.string).count("\\"), 0, path.name)


if __name__ == "__main__":
    unittest.main()
