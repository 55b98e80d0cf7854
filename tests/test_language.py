"""The package keeps to the small part of Python that the program is written in: what of it a walk can see."""

import ast
import pathlib
import re
import unittest

import doubletables

FOLDER = pathlib.Path(doubletables.__file__).parent
STATEMENTS = (
    ast.FunctionDef, ast.ClassDef, ast.ImportFrom, ast.Assign, ast.If, ast.While, ast.For, ast.Return, ast.Break,
    ast.Continue, ast.Pass, ast.Raise, ast.Try, ast.ExceptHandler, ast.Expr,
)
EXPRESSIONS = (
    ast.Constant, ast.List, ast.Tuple, ast.Dict, ast.BinOp, ast.UnaryOp, ast.BoolOp, ast.Compare, ast.IfExp, ast.Call,
    ast.Attribute, ast.Subscript, ast.Slice, ast.ListComp, ast.Name, ast.Lambda, ast.JoinedStr, ast.FormattedValue,
)
PARTS = (
    ast.Module, ast.arguments, ast.arg, ast.alias, ast.comprehension, ast.keyword, ast.expr_context, ast.boolop,
    ast.operator, ast.unaryop, ast.cmpop,
)
OWN_NAMES_OF_PYTHON = (
    "len range enumerate zip min max sum abs sorted reversed int str bool list tuple dict set frozenset isinstance ord "
    "repr any all divmod Exception ValueError TypeError KeyError IndexError LookupError ZeroDivisionError "
    "ArithmeticError OverflowError RuntimeError NotImplementedError"
).split()
METHODS = (
    "append clear copy count endswith extend find get index insert isalnum isalpha isdigit islower isspace isupper "
    "items join keys ljust lower lstrip partition pop remove replace reverse rfind rjust rpartition rsplit rstrip "
    "setdefault split splitlines startswith strip update upper values zfill bit_length"
).split()
WORDS_NOWHERE = re.compile(
    r"\b(type|typing|typing_extensions|enum|Enum|IntEnum|StrEnum|Flag|IntFlag|Generic|Protocol|ABC|ABCMeta|namedtuple"
    r"|NamedTuple|TypedDict|TYPE_CHECKING|abstractmethod)\b|dataclass|overload|contextmanager"
)


def files():
    return sorted(path for path in FOLDER.rglob("*") if "__pycache__" not in path.parts)


def trees():
    return [(path, ast.parse(path.read_text("utf-8"))) for path in files()]


def all_nodes():
    return [(path, node) for path, tree in trees() for node in ast.walk(tree)]


def nodes_of(kinds):
    return [(path, node) for path, node in all_nodes() if isinstance(node, kinds)]


def methods_of_classes():
    return {
        item.name for path, node in nodes_of(ast.ClassDef) for item in node.body if isinstance(item, ast.FunctionDef)
    }


def values_of_objects():
    return {node.attr for path, node in nodes_of(ast.Attribute) if isinstance(node.ctx, ast.Store)}


def bound_names(tree):
    names = {node.name for node in ast.walk(tree) if isinstance(node, (ast.FunctionDef, ast.ClassDef))}
    names -= {"__init__"}
    names |= {alias.name for node in ast.walk(tree) if isinstance(node, ast.ImportFrom) for alias in node.names}
    names |= {node.arg for node in ast.walk(tree) if isinstance(node, ast.arg)}
    names |= {node.id for node in ast.walk(tree) if isinstance(node, ast.Name) and isinstance(node.ctx, ast.Store)}
    return names


class Files(unittest.TestCase):
    def test_kinds_and_names(self):
        names = [path.name for path in files()]
        self.assertIn("__init__.py", names)
        for name in names:
            self.assertRegex(name, r"^(__init__|[a-z][a-z0-9_]*)\.py$")

    def test_signs_and_sizes(self):
        for path in files():
            text = path.read_text("utf-8")
            self.assertRegex(text, r"\A[ -~\n]*\Z", path)
            self.assertIsNone(WORDS_NOWHERE.search(text), path)
            rows = text.split("\n")
            self.assertLessEqual(len(rows), 401, path)
            self.assertLessEqual(max(map(len, rows)), 120, path)

    def test_functions_are_short(self):
        for path, node in nodes_of(ast.FunctionDef):
            self.assertLessEqual(node.end_lineno - node.lineno + 1, 40, (path, node.name))


class Forms(unittest.TestCase):
    def test_statements_and_expressions(self):
        for path, node in all_nodes():
            self.assertIsInstance(node, STATEMENTS + EXPRESSIONS + PARTS, (path, ast.dump(node)))

    def test_no_division_that_gives_a_float(self):
        for path, node in nodes_of((ast.Div, ast.Pow, ast.MatMult)):
            self.fail((path, node))

    def test_constants(self):
        for path, node in nodes_of(ast.Constant):
            self.assertTrue(node.value is None or isinstance(node.value, (bool, int, str)), (path, node.lineno))

    def test_expressions_by_themselves(self):
        for path, tree in trees():
            for node in ast.walk(tree):
                if isinstance(node, ast.Expr) and node is not tree.body[0]:
                    self.assertIsInstance(node.value, ast.Call, (path, node.lineno))

    def test_loops_and_assignments(self):
        for path, node in nodes_of((ast.For, ast.While)):
            self.assertEqual(node.orelse, [], (path, node.lineno))
        for path, node in nodes_of(ast.Assign):
            self.assertEqual(len(node.targets), 1, (path, node.lineno))
        for path, node in nodes_of(ast.ListComp):
            self.assertEqual(len(node.generators), 1, (path, node.lineno))
        for path, node in nodes_of(ast.Try):
            self.assertEqual(node.finalbody, [], (path, node.lineno))
            self.assertTrue(all(handler.type is not None for handler in node.handlers), (path, node.lineno))

    def test_is_stands_beside_none_true_and_false(self):
        for path, node in nodes_of(ast.Compare):
            if any(isinstance(sign, (ast.Is, ast.IsNot)) for sign in node.ops):
                self.assertIsInstance(node.comparators[0], ast.Constant, (path, node.lineno))

    def test_functions(self):
        for path, node in nodes_of((ast.FunctionDef, ast.Lambda)):
            given = node.args
            self.assertEqual((given.vararg, given.kwarg, given.kwonlyargs, given.posonlyargs), (None, None, [], []))
        for path, node in nodes_of((ast.FunctionDef, ast.ClassDef)):
            self.assertEqual(node.decorator_list, [], (path, node.name))


class Names(unittest.TestCase):
    def test_imports_are_the_packages_own(self):
        for path, node in nodes_of(ast.ImportFrom):
            self.assertEqual(node.level, 0, (path, node.lineno))
            self.assertRegex(node.module, r"^doubletables\.[a-z]+$")
            source = ast.parse((FOLDER / (node.module.split(".")[1] + ".py")).read_text("utf-8"))
            defined = {item.name for item in source.body if isinstance(item, (ast.FunctionDef, ast.ClassDef))}
            defined |= {item.targets[0].id for item in source.body if isinstance(item, ast.Assign)}
            for alias in node.names:
                self.assertIn(alias.name, defined)
                self.assertIsNone(alias.asname)

    def test_every_name_is_bound_or_allowed(self):
        for path, tree in trees():
            known = bound_names(tree) | set(OWN_NAMES_OF_PYTHON)
            attributes = set(METHODS) | values_of_objects() | methods_of_classes()
            for node in ast.walk(tree):
                if isinstance(node, ast.Name):
                    self.assertIn(node.id, known, (path, node.lineno))
                if isinstance(node, ast.Attribute):
                    self.assertIn(node.attr, attributes, (path, node.lineno))

    def test_values_of_objects_are_plain_and_no_methods(self):
        for name in values_of_objects():
            self.assertRegex(name, r"^[A-Za-z][A-Za-z0-9_]*$")
            self.assertNotIn(name, methods_of_classes())
            for own in (str, int, list, dict, set, bytes):
                self.assertFalse(hasattr(own, name), name)

    def test_classes(self):
        for path, node in nodes_of(ast.ClassDef):
            self.assertLessEqual(len(node.bases), 1, (path, node.name))
            for item in node.body:
                self.assertIsInstance(item, (ast.FunctionDef, ast.Pass), (path, node.name))
        for path, tree in trees():
            inner = [node for node in ast.walk(tree) if isinstance(node, ast.ClassDef) and node not in tree.body]
            self.assertEqual(inner, [], path)

    def test_no_two_files_draw_from_one_another(self):
        drawn = {}
        for path, node in nodes_of(ast.ImportFrom):
            drawn.setdefault(path.stem, set()).add(node.module.split(".")[1])
        for start in drawn:
            reached, ahead = set(), [start]
            while ahead:
                fresh = drawn.get(ahead.pop(), set()) - reached
                reached |= fresh
                ahead.extend(fresh)
            self.assertNotIn(start, reached)

    def test_names_are_plain_and_not_pythons_own(self):
        for path, tree in trees():
            for name in bound_names(tree):
                self.assertRegex(name, r"^[A-Za-z][A-Za-z0-9_]*$", path)
                self.assertNotIn(name, dir(__builtins__) if not isinstance(__builtins__, dict) else __builtins__, path)

    def test_a_name_is_bound_once_at_a_files_top(self):
        for path, tree in trees():
            names = [item.name for item in tree.body if isinstance(item, (ast.FunctionDef, ast.ClassDef))]
            names += [item.targets[0].id for item in tree.body if isinstance(item, ast.Assign)]
            names += [alias.name for item in tree.body if isinstance(item, ast.ImportFrom) for alias in item.names]
            self.assertEqual(len(names), len(set(names)), path)

    def test_no_local_is_called_like_a_class_or_an_import(self):
        for path, tree in trees():
            taken = {item.name for item in tree.body if isinstance(item, ast.ClassDef)}
            taken |= {alias.name for item in tree.body if isinstance(item, ast.ImportFrom) for alias in item.names}
            for node in ast.walk(tree):
                if isinstance(node, ast.arg):
                    self.assertNotIn(node.arg, taken, (path, node.lineno))
                if isinstance(node, ast.Name) and isinstance(node.ctx, ast.Store):
                    self.assertNotIn(node.id, taken, (path, node.lineno))


if __name__ == "__main__":
    unittest.main()
