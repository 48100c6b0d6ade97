"""The package keeps to its small part of Python, as far as a walk can see."""

import ast
import builtins
import pathlib
import re
import unittest

PACKAGE = pathlib.Path(__file__).resolve().parent.parent / "lanternchecks"
FILES = sorted(path for path in PACKAGE.rglob("*") if "__pycache__" not in path.parts)

ERRORS = """Exception ValueError TypeError KeyError IndexError LookupError ZeroDivisionError ArithmeticError
    OverflowError RuntimeError NotImplementedError AttributeError StopIteration""".split()
BUILT_IN = """len range enumerate zip min max sum abs sorted reversed int str bool list tuple dict set frozenset
    isinstance ord repr any all divmod""".split() + ERRORS
METHODS = """append clear copy count endswith extend find get index insert isalnum isalpha isdigit islower isspace
    isupper items join keys ljust lower lstrip partition pop remove replace reverse rfind rjust rpartition rsplit
    rstrip setdefault split splitlines startswith strip update upper values zfill bit_length""".split()
NEVER_NAMED = """register mro elements open input version_info with_traceback add_note attrgetter breakpoint builtins
    compile copyright credits delattr dir eval exec exit gc getattr globals hasattr help id importlib license locals
    methodcaller os quit setattr super type vars sys hash next map filter bytes format chr""".split()
NEVER_WRITTEN = re.compile(
    r"\b(type|typing|typing_extensions|enum|Enum|IntEnum|StrEnum|Flag|IntFlag|Generic|Protocol|ABC|ABCMeta"
    r"|namedtuple|NamedTuple|TypedDict|TYPE_CHECKING|abstractmethod)\b|dataclass|overload|contextmanager")
NODES = """Module Expr Constant ImportFrom alias FunctionDef arguments arg ClassDef Assign AugAssign If While For
    Return Break Continue Pass Raise Try ExceptHandler Call Name Load Store Attribute Subscript Slice List Tuple Dict
    ListComp comprehension BinOp UnaryOp BoolOp Compare IfExp Lambda JoinedStr FormattedValue Add Sub Mult FloorDiv
    Mod Pow LShift RShift BitAnd BitOr BitXor Invert USub Not And Or Eq NotEq Lt LtE Gt GtE Is IsNot In NotIn
    keyword""".split()


def trees():
    return [(path, ast.parse(path.read_text(encoding="utf-8"))) for path in FILES]


def nodes_of(tree, *kinds):
    return [node for node in ast.walk(tree) if isinstance(node, kinds)]


def bound_names(tree):
    found = [node.name for node in nodes_of(tree, ast.FunctionDef, ast.ClassDef)]
    found += [node.arg for node in nodes_of(tree, ast.arg)]
    found += [node.id for node in nodes_of(tree, ast.Name) if isinstance(node.ctx, ast.Store)]
    return found + [alias.name for node in nodes_of(tree, ast.ImportFrom) for alias in node.names]


def is_plain(node):
    if isinstance(node, ast.UnaryOp):
        return isinstance(node.op, ast.USub) and is_plain(node.operand)
    if isinstance(node, (ast.Tuple, ast.List)):
        return all(is_plain(part) for part in node.elts)
    if isinstance(node, ast.Dict):
        return all(is_plain(part) for part in node.keys + node.values)
    return isinstance(node, ast.Constant)


class Form(unittest.TestCase):
    def test_files(self):
        self.assertIn(PACKAGE / "__init__.py", FILES)
        for path in FILES:
            self.assertRegex(path.name, r"\A[a-z0-9_]+\.py\Z")

    def test_signs_and_sizes(self):
        for path in FILES:
            source = path.read_bytes().decode("ascii")
            self.assertRegex(source, r"\A[ -~\n]*\Z", path)
            self.assertLessEqual(source.count("\n"), 400, path)
            self.assertLessEqual(max(len(line) for line in source.split("\n")), 120, path)
            self.assertIsNone(NEVER_WRITTEN.search(source), path)

    def test_functions_are_short(self):
        for path, tree in trees():
            for node in nodes_of(tree, ast.FunctionDef):
                self.assertLessEqual(node.end_lineno - node.lineno + 1, 40, (path, node.name))
                self.assertEqual(node.decorator_list, [], (path, node.name))
                self.assertIsNone(node.args.vararg or node.args.kwarg, (path, node.name))

    def test_statements_and_expressions(self):
        for path, tree in trees():
            for node in ast.walk(tree):
                self.assertIn(node.__class__.__name__, NODES, (path, getattr(node, "lineno", 0)))
            for node in nodes_of(tree, ast.Constant):
                self.assertIsInstance(node.value, (int, str, type(None)), path)
            for node in nodes_of(tree, ast.Assign):
                self.assertEqual(len(node.targets), 1, (path, node.lineno))

    def test_top_of_a_file(self):
        for path, tree in trees():
            self.assertTrue(ast.get_docstring(tree), path)
            bound = []
            for node in tree.body[1:]:
                if isinstance(node, ast.Assign):
                    self.assertTrue(is_plain(node.value), (path, node.lineno))
                    bound.append(node.targets[0].id)
                elif isinstance(node, (ast.FunctionDef, ast.ClassDef)):
                    bound.append(node.name)
                else:
                    self.assertIsInstance(node, ast.ImportFrom, (path, node.lineno))
            self.assertEqual(len(bound), len(set(bound)), path)

    def test_imports(self):
        drawn = {}
        for path, tree in trees():
            drawn[path.stem] = []
            for node in nodes_of(tree, ast.ImportFrom):
                self.assertEqual(node.level, 0, path)
                self.assertTrue(node.module.startswith("lanternchecks."), path)
                source = node.module.split(".")[1]
                drawn[path.stem].append(source)
                own = ast.parse((PACKAGE / (source + ".py")).read_text())
                for alias in node.names:
                    self.assertIsNone(alias.asname, path)
                    self.assertIn(alias.name, [name for part in own.body for name in bound_names(part)
                                               if not isinstance(part, ast.ImportFrom)])
        left = dict(drawn)
        while left:
            free = [name for name in left if not any(other in left for other in left[name])]
            self.assertTrue(free, left)
            left = {name: left[name] for name in left if name not in free}

    def test_names(self):
        for path, tree in trees():
            own = bound_names(tree)
            for name in own:
                self.assertNotIn(name, BUILT_IN + NEVER_NAMED, path)
                if name != "__init__":
                    self.assertRegex(name, r"\A[A-Za-z][A-Za-z0-9_]*\Z", path)
            for node in nodes_of(tree, ast.Name):
                self.assertIn(node.id, own + BUILT_IN, (path, node.lineno))

    def test_parameters_and_locals(self):
        for path, tree in trees():
            taken = [alias.name for node in nodes_of(tree, ast.ImportFrom) for alias in node.names]
            taken += [node.name for node in nodes_of(tree, ast.ClassDef)] + dir(builtins)
            for node in nodes_of(tree, ast.FunctionDef):
                inner = [part.arg for part in nodes_of(node, ast.arg)]
                inner += [part.id for part in nodes_of(node, ast.Name) if isinstance(part.ctx, ast.Store)]
                self.assertEqual(set(inner) & set(taken), set(), (path, node.name))
            self.assertEqual(set(bound_names(tree)) & set(dir(builtins)), set(), path)

    def test_texts_and_powers(self):
        for path, tree in trees():
            for node in nodes_of(tree, ast.Constant):
                self.assertFalse(isinstance(node.value, str) and "%" in node.value, (path, node.lineno))
            for node in nodes_of(tree, ast.BinOp):
                if isinstance(node.op, ast.Pow):
                    self.assertIsInstance(node.right, ast.Constant, (path, node.lineno))

    def test_values_are_given_through_a_local_name(self):
        for path, tree in trees():
            for node in nodes_of(tree, ast.Attribute):
                if isinstance(node.ctx, ast.Store):
                    self.assertIsInstance(node.value, ast.Name, (path, node.lineno))

    def test_methods_and_values(self):
        methods, values, read = [], [], []
        for path, tree in trees():
            for node in nodes_of(tree, ast.ClassDef):
                methods += [part.name for part in node.body if isinstance(part, ast.FunctionDef)]
            for node in nodes_of(tree, ast.Attribute):
                self.assertNotIn(node.attr, NEVER_NAMED, (path, node.lineno))
                (values if isinstance(node.ctx, ast.Store) else read).append(node.attr)
        self.assertEqual(set(methods) & set(values), set())
        self.assertEqual(set(read) - set(methods) - set(values) - set(METHODS), set())
        for kind in (str, int, list, dict, set, bytes):
            self.assertEqual(set(values) & set(dir(kind)), set())


if __name__ == "__main__":
    unittest.main()
