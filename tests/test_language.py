"""Holds the package to the part of Python that it keeps to, as far as the rules can be seen in a file's tree."""

import ast
import pathlib
import re
import unittest

PACKAGE = "purseborder"
FOLDER = pathlib.Path(__file__).resolve().parent.parent / PACKAGE

NODES = """
    Module Import ImportFrom alias FunctionDef ClassDef arguments arg Lambda Return Assign AugAssign AnnAssign For While
    If Raise Try ExceptHandler Expr Pass Break Continue BoolOp And Or BinOp Add Sub Mult FloorDiv Mod Pow LShift RShift
    BitOr BitXor BitAnd UnaryOp Not USub UAdd Invert IfExp Dict Set ListComp comprehension Compare Eq NotEq Lt LtE Gt
    GtE Is IsNot In NotIn Call keyword JoinedStr FormattedValue Constant Attribute Subscript Name List Tuple Slice Load
    Store
""".split()
BUILT_IN = """
    len range enumerate zip min max sum abs sorted reversed int str bool list tuple dict set isinstance ord repr any all
    divmod Exception ValueError TypeError KeyError IndexError LookupError ZeroDivisionError ArithmeticError
    OverflowError RuntimeError NotImplementedError AttributeError StopIteration frozenset
""".split()
METHODS = """
    append clear copy count endswith extend find get index insert isalnum isalpha isdigit islower isspace isupper items
    join keys ljust lower lstrip partition pop remove replace reverse rfind rjust rpartition rsplit rstrip setdefault
    split splitlines startswith strip update upper values zfill bit_length
""".split()
DOUBLE = "__init__ __eq__ __repr__ __str__ __len__".split()
WORDS = """
    type typing typing_extensions enum Enum IntEnum StrEnum Flag IntFlag Generic Protocol ABC ABCMeta namedtuple
    NamedTuple TypedDict TYPE_CHECKING abstractmethod
""".split()
NOWHERE = """
    register mro elements open input version_info with_traceback add_note format format_map f_back f_locals f_globals
    f_code f_builtins f_lineno tb_next tb_frame co_names co_code co_consts gi_frame cr_frame
""".split()
NO_NAMES = """
    attrgetter breakpoint builtins compile copyright credits delattr dir eval exec exit gc getattr globals hasattr help
    id importlib license locals methodcaller os quit setattr super type vars sys
""".split()
OWN_METHODS = METHODS + ["add", "discard"]
OWN_VALUES = "count index title find get join lower upper split strip copy add".split()
PYTHONS_OWN = {name for kind in (str, int, list, dict, set, bytes) for name in dir(kind)}
WALKED = "zip enumerate reversed range items keys values".split()
WALKERS = "list tuple dict sorted sum any all enumerate zip min max join".split()


def called_as(node):
    """The name of the function or method that is called here, or None."""
    if not isinstance(node, ast.Call):
        return None
    return getattr(node.func, "id", getattr(node.func, "attr", None))


def files():
    return sorted(path for path in FOLDER.rglob("*") if path.is_file() and "__pycache__" not in path.parts)


def tree_of(path):
    return ast.parse(path.read_text(encoding="utf-8"))


def bound_in(tree):
    """Every name that is bound somewhere in a file, by whatever."""
    for node in ast.walk(tree):
        if isinstance(node, (ast.FunctionDef, ast.ClassDef)):
            yield node.name
        elif isinstance(node, ast.Name) and isinstance(node.ctx, ast.Store):
            yield node.id
        elif isinstance(node, ast.arg):
            yield node.arg
        elif isinstance(node, ast.alias):
            yield node.asname or node.name
        elif isinstance(node, ast.ExceptHandler) and node.name:
            yield node.name


def own_attributes():
    """The methods of the package's classes, and the values of their objects."""
    for path in files():
        for node in ast.walk(tree_of(path)):
            if isinstance(node, ast.ClassDef):
                yield from [inner.name for inner in node.body if isinstance(inner, ast.FunctionDef)]
            elif isinstance(node, ast.Attribute) and isinstance(node.ctx, ast.Store):
                yield node.attr


def drawn_from(path):
    return [node.module for node in ast.walk(tree_of(path)) if isinstance(node, ast.ImportFrom)]


class Language(unittest.TestCase):
    def test_files(self):
        self.assertTrue(files())
        for path in files():
            self.assertRegex(path.relative_to(FOLDER).as_posix(), r"\A[a-z0-9_]+\.py\Z")
            self.assertNotRegex(path.name, r"\A(test|site\.|conftest|sitecustom|usercustom)")

    def test_signs_words_and_lengths(self):
        for path in files():
            text = path.read_bytes().decode("ascii")
            lines = text.split("\n")
            self.assertRegex(text, r"\A[ -~\n]*\Z", path)
            self.assertLessEqual(len(lines), 400, path)
            self.assertLessEqual(max(len(line) for line in lines), 120, path)
            self.assertNotRegex(text, r"\b(" + "|".join(WORDS) + r")\b", path)
            self.assertNotRegex(text, "dataclass|overload|contextmanager", path)
            for node in ast.walk(tree_of(path)):
                if isinstance(node, ast.FunctionDef):
                    self.assertLessEqual(node.end_lineno - node.lineno + 1, 40, (path, node.name))

    def test_nodes(self):
        for path in files():
            for node in ast.walk(tree_of(path)):
                where = (path.name, getattr(node, "lineno", None), type(node).__name__)
                self.assertIn(type(node).__name__, NODES, where)
                if isinstance(node, ast.Constant):
                    self.assertIsInstance(node.value, (int, str, type(None)), where)
                    self.assertNotIn("%", str(node.value), where)
                if isinstance(node, ast.Assign):
                    self.assertEqual(len(node.targets), 1, where)
                if isinstance(node, ast.arguments):
                    self.assertFalse(node.vararg or node.kwarg or node.kwonlyargs or node.posonlyargs, where)
                if isinstance(node, (ast.FunctionDef, ast.ClassDef)):
                    self.assertFalse(node.decorator_list, where)
                if isinstance(node, (ast.For, ast.While)):
                    self.assertFalse(node.orelse, where)
                if isinstance(node, ast.Try):
                    self.assertFalse(node.finalbody, where)
                if isinstance(node, ast.ListComp):
                    self.assertEqual(len(node.generators), 1, where)
                    self.assertLessEqual(len(node.generators[0].ifs), 1, where)
                if isinstance(node, ast.FormattedValue):
                    self.assertIsInstance(node.value, ast.Name, where)
                if isinstance(node, ast.Compare) and isinstance(node.ops[0], (ast.Is, ast.IsNot)):
                    self.assertIn(ast.unparse(node.comparators[0]), ("None", "True", "False"), where)

    def test_names(self):
        for path in files():
            bound = set(bound_in(tree_of(path)))
            for name in bound:
                if name not in DOUBLE:
                    self.assertTrue(re.fullmatch("[A-Za-z][A-Za-z0-9_]*", name), (path, name))
                builtins = vars(__import__("builtins"))
                self.assertNotIn(name, builtins, path)
            for node in ast.walk(tree_of(path)):
                if isinstance(node, ast.Name) and isinstance(node.ctx, ast.Load) and node.id not in bound:
                    self.assertIn(node.id, BUILT_IN, path)

    def test_attributes(self):
        own = set(own_attributes())
        for path in files():
            for node in ast.walk(tree_of(path)):
                if isinstance(node, ast.Attribute) and isinstance(node.ctx, ast.Load):
                    self.assertIn(node.attr, own | set(METHODS), (path, node.lineno))

    def test_no_local_is_called_like_what_the_top_binds(self):
        for path in files():
            top = []
            for node in tree_of(path).body:
                if isinstance(node, (ast.FunctionDef, ast.ClassDef)):
                    top.append(node.name)
                elif isinstance(node, ast.ImportFrom):
                    top.extend(name.name for name in node.names)
                elif isinstance(node, ast.Assign):
                    top.append(node.targets[0].id)
            self.assertEqual(len(top), len(set(top)), path)
            for function in ast.walk(tree_of(path)):
                if isinstance(function, (ast.FunctionDef, ast.Lambda)):
                    inner = function.body if isinstance(function, ast.FunctionDef) else [function.body]
                    for name in bound_in(ast.Module([function.args] + inner, [])):
                        self.assertNotIn(name, top, (path, function.lineno))

    def test_nothing_imported_is_left_unused(self):
        for path in files():
            used = [node.id for node in ast.walk(tree_of(path)) if isinstance(node, ast.Name)]
            for node in ast.walk(tree_of(path)):
                if isinstance(node, ast.ImportFrom):
                    for name in node.names:
                        self.assertIn(name.name, used, path)

    def test_walked_at_once_and_sets_on_the_spot(self):
        for path in files():
            for parent in ast.walk(tree_of(path)):
                for node in ast.iter_child_nodes(parent):
                    called = called_as(node)
                    where = (path.name, getattr(node, "lineno", None))
                    if called in WALKED:
                        walks = isinstance(parent, (ast.For, ast.comprehension)) and parent.iter is node
                        self.assertTrue(walks or called_as(parent) in WALKERS, where)
                    if called == "set":
                        asks = [type(asked) for asked in getattr(parent, "ops", [])]
                        compared = asks in ([ast.In], [ast.NotIn], [ast.Eq], [ast.NotEq])
                        self.assertTrue(compared or called_as(parent) in ("sorted", "len"), where)
                        self.assertFalse(getattr(parent, "keywords", []), where)
                    self.assertNotIsInstance(node, ast.Set, where)
                    self.assertNotIsInstance(node, ast.Pow, where)

    def test_tops_of_files(self):
        for path in files():
            names = []
            for node in tree_of(path).body:
                kinds = (ast.Expr, ast.ImportFrom, ast.FunctionDef, ast.ClassDef, ast.Assign)
                self.assertIsInstance(node, kinds, (path, node.lineno))
                if isinstance(node, ast.Expr):
                    self.assertIsInstance(node.value, ast.Constant, (path, node.lineno))
                if isinstance(node, ast.Assign):
                    self.assertFalse([n for n in ast.walk(node) if isinstance(n, ast.Call)], (path, node.lineno))
                    names.append(node.targets[0].id)
                if isinstance(node, (ast.FunctionDef, ast.ClassDef)):
                    names.append(node.name)
            self.assertEqual(len(names), len(set(names)), path)

    def test_values_of_tops(self):
        for path in files():
            above = []
            for node in tree_of(path).body:
                if isinstance(node, ast.FunctionDef):
                    above.append(node.name)
                if isinstance(node, ast.Assign):
                    outer = node.value
                    inner = list(ast.walk(outer))
                    for part in inner:
                        where = (path.name, part.lineno if hasattr(part, "lineno") else node.lineno)
                        if isinstance(part, ast.Name):
                            self.assertIn(part.id, above, where)
                        elif not isinstance(part, (ast.Load, ast.Constant, ast.Tuple, ast.USub, ast.UnaryOp)):
                            self.assertIsInstance(part, (ast.List, ast.Dict), where)
                            self.assertIs(part, outer, where)

    def test_what_tops_keep_is_only_read(self):
        for path in files():
            tree = tree_of(path)
            kept = [node.targets[0].id for node in tree.body
                    if isinstance(node, ast.Assign) and isinstance(node.value, (ast.List, ast.Dict))]
            for parent in ast.walk(tree):
                for node in ast.iter_child_nodes(parent):
                    if isinstance(node, ast.Name) and node.id in kept and isinstance(node.ctx, ast.Load):
                        read = isinstance(parent, ast.Subscript) and isinstance(parent.ctx, ast.Load)
                        asked = isinstance(parent, ast.Compare) and isinstance(parent.ops[0], (ast.In, ast.NotIn))
                        self.assertTrue(read or asked, (path.name, node.lineno))

    def test_classes(self):
        methods, values = set(), set()
        for path in files():
            tree = tree_of(path)
            classes = [node for node in tree.body if isinstance(node, ast.ClassDef)]
            self.assertEqual(len(classes), len([node for node in ast.walk(tree) if isinstance(node, ast.ClassDef)]))
            for node in classes:
                self.assertLessEqual(len(node.bases), 1, node.name)
                self.assertFalse(node.keywords, node.name)
                defined = [inner.name for inner in node.body if isinstance(inner, ast.FunctionDef)]
                self.assertEqual(len(defined), len(set(defined)), node.name)
                for inner in node.body:
                    text = isinstance(inner, ast.Expr) and isinstance(inner.value, ast.Constant)
                    self.assertTrue(text or isinstance(inner, ast.FunctionDef), (node.name, inner.lineno))
                methods.update(defined)
            for node in ast.walk(tree):
                if isinstance(node, ast.Attribute) and isinstance(node.ctx, ast.Store):
                    values.add(node.attr)
                    self.assertEqual(ast.unparse(node.value), "self", (path.name, node.lineno))
        self.assertFalse(methods & values)
        for name in methods - set(DOUBLE):
            self.assertTrue(name not in PYTHONS_OWN or name in OWN_METHODS, name)
        for name in values:
            self.assertTrue(name not in PYTHONS_OWN or name in OWN_VALUES, name)
            self.assertNotEqual(name, "args")

    def test_classes_are_called_raised_or_stood_under(self):
        named = [node.name for path in files() for node in tree_of(path).body if isinstance(node, ast.ClassDef)]
        for path in files():
            for parent in ast.walk(tree_of(path)):
                for node in ast.iter_child_nodes(parent):
                    if isinstance(node, ast.Name) and node.id in named:
                        called = isinstance(parent, ast.Call) and parent.func is node
                        under = isinstance(parent, (ast.ClassDef, ast.ExceptHandler))
                        self.assertTrue(called or under, (path.name, node.lineno))

    def test_errors_are_made_on_the_spot(self):
        for path in files():
            for node in ast.walk(tree_of(path)):
                if isinstance(node, ast.Raise):
                    self.assertIsInstance(node.exc, ast.Call, (path.name, node.lineno))

    def test_names_that_are_not_used(self):
        for path in files():
            for node in ast.walk(tree_of(path)):
                for name in (getattr(node, "id", None), getattr(node, "name", None), getattr(node, "arg", None)):
                    self.assertNotIn(name, NOWHERE + NO_NAMES, path)
                self.assertNotIn(getattr(node, "attr", None), NOWHERE, path)

    def test_imports_go_one_way(self):
        for path in files():
            for node in ast.walk(tree_of(path)):
                self.assertNotIsInstance(node, ast.Import, path)
                if isinstance(node, ast.ImportFrom):
                    self.assertEqual(node.level, 0, path)
                    self.assertTrue(node.module.startswith(PACKAGE + "."), path)
                    source = FOLDER / (node.module.split(".")[1] + ".py")
                    defined = [n.name for n in tree_of(source).body if isinstance(n, (ast.FunctionDef, ast.ClassDef))]
                    values = [n.targets[0].id for n in tree_of(source).body if isinstance(n, ast.Assign)]
                    for name in node.names:
                        self.assertIn(name.name, defined + values, path)
        left = {f"{PACKAGE}.{path.stem}": drawn_from(path) for path in files()}
        while left:
            free = [name for name in left if not any(other in left for other in left[name])]
            self.assertTrue(free, f"these draw from one another: {sorted(left)}")
            for name in free:
                left.pop(name)


if __name__ == "__main__":
    unittest.main()
