"""The form of the package's code: the rules of LANGUAGE.md that can be seen in its files."""

import ast
import builtins
import os
import re
import unittest

PACKAGE = os.path.join(os.path.dirname(os.path.abspath(__file__)), "..", "fingercells")

STATEMENTS = (ast.Assign, ast.AugAssign, ast.If, ast.While, ast.For, ast.Return, ast.Break, ast.Continue,
              ast.Pass, ast.Raise, ast.Try, ast.Expr, ast.FunctionDef)
VALUES = (ast.Constant, ast.Name, ast.Attribute, ast.Subscript, ast.Slice, ast.List, ast.Tuple, ast.Dict,
          ast.Set, ast.BinOp, ast.UnaryOp, ast.BoolOp, ast.Compare, ast.IfExp, ast.Call, ast.Lambda,
          ast.ListComp, ast.JoinedStr, ast.FormattedValue)
PYTHONS_NAMES = set("""len range enumerate zip min max sum abs sorted reversed int str bool list tuple dict set
    frozenset isinstance ord repr any all divmod Exception ValueError TypeError KeyError IndexError LookupError
    ZeroDivisionError ArithmeticError OverflowError RuntimeError NotImplementedError AttributeError
    StopIteration""".split())
PYTHONS_METHODS = set("""append clear copy count endswith extend find get index insert isalnum isalpha isdigit
    islower isspace isupper items join keys ljust lower lstrip partition pop remove replace reverse rfind rjust
    rpartition rsplit rstrip setdefault split splitlines startswith strip update upper values zfill
    bit_length""".split())
UNUSED_NAMES = set("""register mro elements open input version_info with_traceback add_note attrgetter breakpoint
    builtins compile copyright credits delattr dir eval exec exit gc getattr globals hasattr help id importlib
    license locals methodcaller os quit setattr super type vars sys chr""".split())
UNUSED_WORDS = re.compile(r"\b(type|typing|typing_extensions|enum|Enum|IntEnum|StrEnum|Flag|IntFlag|Generic|Protocol"
                          r"|ABC|ABCMeta|namedtuple|NamedTuple|TypedDict|TYPE_CHECKING|abstractmethod)\b"
                          r"|dataclass|overload|contextmanager")
OF_PYTHONS_VALUES = {name for kind in (str, int, list, dict, set, bytes) for name in dir(kind)}


def files():
    return sorted(name for name in os.listdir(PACKAGE) if name != "__pycache__")


def source(name):
    with open(os.path.join(PACKAGE, name), encoding="utf-8") as file:
        return file.read()


def tree(name):
    return ast.parse(source(name))


def found(kind, root):
    return [node for node in ast.walk(root) if isinstance(node, kind)]


def module(name):
    return "fingercells." + name[:-3]


def tops(name):
    """The names that are bound at a file's top, but for imports."""
    names = [node.name for node in tree(name).body if isinstance(node, (ast.FunctionDef, ast.ClassDef))]
    return names + [node.targets[0].id for node in tree(name).body if isinstance(node, ast.Assign)]


def imported(name):
    return [(node.module, alias.name) for node in found(ast.ImportFrom, tree(name)) for alias in node.names]


def bound_in_defs(root):
    names = {node.arg for node in found(ast.arg, root)}
    for function in found(ast.FunctionDef, root):
        names |= {node.id for node in found(ast.Name, function) if isinstance(node.ctx, ast.Store)}
    return names


class Files(unittest.TestCase):
    def test_names_and_signs(self):
        for name in files():
            self.assertRegex(name, r"\A([a-z][a-z0-9_]*|__init__|__main__)\.py\Z")
            self.assertFalse(name.startswith("test") or name[:-3] in dir(builtins), name)
            self.assertRegex(source(name), r"\A[ -~\n]*\Z", name)
        self.assertIn("__init__.py", files())

    def test_size(self):
        for name in files():
            lines = source(name).split("\n")
            self.assertLessEqual(len(lines), 399, name)
            self.assertLessEqual(max(map(len, lines)), 120, name)
            for node in found(ast.FunctionDef, tree(name)):
                self.assertLessEqual(node.end_lineno - node.lineno + 1, 40, node.name)

    def test_words_that_are_not_used(self):
        for name in files():
            self.assertIsNone(UNUSED_WORDS.search(source(name)), name)


class Modules(unittest.TestCase):
    def test_what_stands_at_the_top(self):
        for name in files():
            root = tree(name)
            self.assertIsNotNone(ast.get_docstring(root), name)
            for node in root.body[1:]:
                kinds = (ast.ImportFrom, ast.FunctionDef, ast.ClassDef, ast.Assign)
                self.assertIsInstance(node, kinds, name)
                if isinstance(node, ast.Assign):
                    self.assertEqual(found((ast.Call, ast.UnaryOp, ast.BinOp, ast.Set), node), [], name)
            names = tops(name) + [other for place, other in imported(name)]
            self.assertEqual(len(names), len(set(names)), name)

    def test_imports_come_from_the_file_that_defines_the_name(self):
        defined = {module(name): tops(name) for name in files()}
        for name in files():
            self.assertEqual(found(ast.Import, tree(name)), [], name)
            for place, other in imported(name):
                self.assertIn(other, defined[place], name)

    def test_no_two_files_draw_from_one_another(self):
        drawn = {module(name): {place for place, other in imported(name)} for name in files()}
        self.assertEqual(drawn["fingercells.__init__"], set())
        while drawn:
            free = [name for name in drawn if not drawn[name] & set(drawn)]
            self.assertNotEqual(free, [], drawn)
            drawn = {name: drawn[name] for name in drawn if name not in free}

    def test_the_interface_stands_once_in_its_file(self):
        self.assertEqual([name for name in files() if "answers" in tops(name)], ["pages.py"])


class Code(unittest.TestCase):
    def test_functions_and_classes(self):
        for name in files():
            for node in found(ast.FunctionDef, tree(name)):
                self.assertEqual((node.decorator_list, node.returns), ([], None), node.name)
                rest = node.args
                self.assertEqual((rest.vararg, rest.kwarg, rest.kwonlyargs, rest.posonlyargs, rest.defaults),
                                 (None, None, [], [], []), node.name)
            for node in found(ast.ClassDef, tree(name)):
                self.assertEqual((node.decorator_list, node.keywords), ([], []), node.name)
                for part in node.body:
                    self.assertIsInstance(part, ast.FunctionDef, node.name)

    def test_statements(self):
        for name in files():
            for function in found(ast.FunctionDef, tree(name)):
                for node in found(ast.stmt, function):
                    self.assertIsInstance(node, STATEMENTS, (name, node.lineno))
                    if isinstance(node, ast.Assign):
                        self.assertEqual(len(node.targets), 1, (name, node.lineno))
                    if isinstance(node, ast.Expr):
                        self.assertIsInstance(node.value, ast.Call, (name, node.lineno))
                    if isinstance(node, (ast.For, ast.While)):
                        self.assertEqual(node.orelse, [], (name, node.lineno))

    def test_values(self):
        for name in files():
            for node in found(ast.expr, tree(name)):
                self.assertIsInstance(node, VALUES, (name, node.lineno))
                if isinstance(node, ast.Constant):
                    self.assertIsInstance(node.value, (int, str, bool, type(None)), (name, node.lineno))
                if isinstance(node, ast.ListComp):
                    self.assertEqual(len(node.generators), 1, (name, node.lineno))
                    self.assertLessEqual(len(node.generators[0].ifs), 1, (name, node.lineno))
                if isinstance(node, ast.BinOp):
                    self.assertNotIsInstance(node.op, (ast.Div, ast.MatMult), (name, node.lineno))

    def test_names(self):
        for name in files():
            root = tree(name)
            known = set(tops(name)) | {other for place, other in imported(name)}
            local = bound_in_defs(root)
            self.assertEqual(local & (known | set(dir(builtins)) | UNUSED_NAMES), set(), name)
            for node in found(ast.Name, root):
                self.assertNotIn(node.id, UNUSED_NAMES, (name, node.lineno))
                self.assertFalse(node.id.startswith("_"), (name, node.lineno))
                self.assertIn(node.id, known | local | PYTHONS_NAMES, (name, node.lineno))

    def test_methods_and_values_of_objects(self):
        methods, kept = set(), set()
        for name in files():
            methods |= {part.name for node in found(ast.ClassDef, tree(name)) for part in node.body}
            kept |= {node.attr for node in found(ast.Attribute, tree(name)) if isinstance(node.ctx, ast.Store)}
        self.assertEqual(methods & kept, set())
        self.assertEqual((methods - {"__init__"} | kept) & (OF_PYTHONS_VALUES | UNUSED_NAMES), set())
        for name in files():
            for node in found(ast.Attribute, tree(name)):
                self.assertIn(node.attr, methods | kept | PYTHONS_METHODS, (name, node.lineno))


if __name__ == "__main__":
    unittest.main()
