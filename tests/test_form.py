"""The package's files held against the rules of LANGUAGE.md that a look at the code can see."""

import ast
import builtins
import pathlib
import re
import unittest

PACKAGE = pathlib.Path(__file__).resolve().parent.parent / "nextword"
FILES = sorted(path for path in PACKAGE.rglob("*.py"))

NODES = set("""
Module FunctionDef ClassDef arguments arg Assign AugAssign If While For Return Break Continue Pass Raise Try
ExceptHandler Expr ImportFrom alias Lambda Constant Name Load Store List Tuple Dict Call keyword Attribute Subscript
Slice ListComp comprehension JoinedStr FormattedValue IfExp BoolOp And Or UnaryOp Not USub Invert BinOp Add Sub Mult
FloorDiv Mod Pow BitAnd BitOr BitXor LShift RShift Compare Eq NotEq Lt LtE Gt GtE In NotIn Is IsNot
""".split())
OWN_NAMES = set("""
len range enumerate zip min max sum abs sorted reversed int str bool list tuple dict set frozenset isinstance ord repr
any all divmod Exception ValueError TypeError KeyError IndexError LookupError ZeroDivisionError ArithmeticError
OverflowError RuntimeError NotImplementedError AttributeError StopIteration
""".split())
METHODS = set("""
append clear copy count endswith extend find get index insert isalnum isalpha isdigit islower isspace isupper items
join keys ljust lower lstrip partition pop remove replace reverse rfind rjust rpartition rsplit rstrip setdefault split
splitlines startswith strip update upper values zfill bit_length
""".split())
WORDS_OUT = re.compile(
    r"\b(type|typing|typing_extensions|enum|Enum|IntEnum|StrEnum|Flag|IntFlag|Generic|Protocol|ABC|ABCMeta|namedtuple"
    r"|NamedTuple|TypedDict|TYPE_CHECKING|abstractmethod)\b|dataclass|overload|contextmanager")
WALKED = {"zip", "enumerate", "reversed", "range", "items", "keys", "values"}
WALKERS = {"list", "tuple", "dict", "sorted", "sum", "any", "all", "enumerate", "zip", "min", "max"}


def called(node):
    """The name or method that a call calls, else None."""
    if isinstance(node, ast.Call):
        return getattr(node.func, "id", None) or getattr(node.func, "attr", None)
    return None


class Form(unittest.TestCase):
    def setUp(self):
        self.texts = {path: path.read_text(encoding="utf-8") for path in FILES}
        self.trees = {path: ast.parse(text) for path, text in self.texts.items()}

    def nodes(self, *kinds):
        for path, tree in self.trees.items():
            for node in ast.walk(tree):
                if not kinds or isinstance(node, kinds):
                    yield f"{path.name}:{getattr(node, 'lineno', 0)}", node

    def pairs(self):
        for where, parent in self.nodes():
            for child in ast.iter_child_nodes(parent):
                yield where, parent, child

    def test_files(self):
        self.assertIn(PACKAGE / "__init__.py", FILES)
        for path in PACKAGE.rglob("*"):
            if "__pycache__" not in path.parts:
                self.assertRegex(path.name, r"^([a-z][a-z0-9_]*|__init__|__main__)\.py$")

    def test_sizes_and_signs(self):
        for path, text in self.texts.items():
            self.assertRegex(text, r"\A[ -~\n]*\Z", path.name)
            self.assertIsNone(WORDS_OUT.search(text), path.name)
            self.assertLessEqual(len(text.splitlines()), 400, path.name)
            self.assertLessEqual(max(len(line) for line in text.splitlines()), 120, path.name)
        for where, node in self.nodes(ast.FunctionDef):
            self.assertLessEqual(node.end_lineno - node.lineno + 1, 40, where)

    def test_only_the_listed_part_of_the_language(self):
        for where, node in self.nodes():
            self.assertIn(node.__class__.__name__, NODES, where)
            if isinstance(node, ast.Constant):
                self.assertNotIsInstance(node.value, (float, bytes, complex), where)
            if isinstance(node, (ast.For, ast.While)):
                self.assertFalse(node.orelse, where)
            if isinstance(node, ast.Try):
                self.assertFalse(node.finalbody, where)
            if isinstance(node, ast.ListComp):
                self.assertEqual(len(node.generators), 1, where)
                self.assertLessEqual(len(node.generators[0].ifs), 1, where)
            if isinstance(node, ast.Assign):
                self.assertEqual(len(node.targets), 1, where)

    def test_functions_and_classes(self):
        for where, node in self.nodes(ast.FunctionDef, ast.ClassDef):
            self.assertFalse(node.decorator_list, where)
            if isinstance(node, ast.ClassDef):
                self.assertLessEqual(len(node.bases), 1, where)
                continue
            self.assertFalse(node.args.vararg or node.args.kwarg or node.args.kwonlyargs or node.args.posonlyargs)

    def test_the_top_of_a_file_binds_each_name_once(self):
        for path, tree in self.trees.items():
            bound = []
            for node in tree.body:
                if isinstance(node, ast.Assign):
                    bound.append(node.targets[0].id)
                elif isinstance(node, (ast.FunctionDef, ast.ClassDef)):
                    bound.append(node.name)
                elif isinstance(node, ast.ImportFrom):
                    bound.extend(alias.name for alias in node.names)
                else:
                    self.assertIs(node, tree.body[0], path.name)
            self.assertEqual(len(bound), len(set(bound)), path.name)
            tops = [node.targets[0] for node in tree.body if isinstance(node, ast.Assign)]
            for node in ast.walk(tree):
                if isinstance(node, ast.arg):
                    self.assertNotIn(node.arg, bound, path.name)
                elif isinstance(node, ast.Name) and isinstance(node.ctx, ast.Store) and node not in tops:
                    self.assertNotIn(node.id, bound, path.name)

    def test_imports(self):
        drawn = {}
        for path, tree in self.trees.items():
            drawn[path.stem] = []
            for node in ast.walk(tree):
                if isinstance(node, ast.ImportFrom):
                    self.assertEqual(node.level, 0, path.name)
                    self.assertRegex(node.module, r"^nextword\.[a-z]+$", path.name)
                    stem = node.module.split(".")[1]
                    tops = [getattr(top, "name", None) or getattr(getattr(top, "targets", [None])[0], "id", None)
                            for top in self.trees[PACKAGE / f"{stem}.py"].body]
                    for alias in node.names:
                        self.assertIn(alias.name, tops, path.name)
                        self.assertIsNone(alias.asname, path.name)
                    drawn[path.stem].append(stem)
        while drawn:
            free = [stem for stem in drawn if not any(other in drawn for other in drawn[stem])]
            self.assertTrue(free, f"these draw from one another: {sorted(drawn)}")
            for stem in free:
                del drawn[stem]

    def test_names(self):
        for where, node in self.nodes(ast.Name, ast.arg, ast.FunctionDef, ast.ClassDef, ast.Attribute):
            name = next(getattr(node, key) for key in ("id", "arg", "name", "attr") if hasattr(node, key))
            if isinstance(node, ast.FunctionDef) and name == "__init__":
                continue
            self.assertFalse(name.startswith("_"), where)
            if isinstance(node, ast.Name) and isinstance(node.ctx, ast.Load):
                self.assertTrue(name in OWN_NAMES or not hasattr(builtins, name), where)
            elif not isinstance(node, ast.Attribute):
                self.assertFalse(hasattr(builtins, name), where)

    def test_methods_and_values(self):
        own_methods = set()
        own_values = set()
        for where, node in self.nodes(ast.ClassDef):
            bodies = [inner for inner in node.body if not isinstance(inner, ast.Pass)]
            names = [inner.name for inner in bodies if isinstance(inner, ast.FunctionDef)]
            self.assertEqual((len(names), len(set(names))), (len(bodies), len(bodies)), where)
            own_methods.update(names)
        for where, node in self.nodes(ast.Attribute):
            if isinstance(node.ctx, ast.Store):
                self.assertEqual(getattr(node.value, "id", None), "self", where)
                own_values.add(node.attr)
        self.assertFalse(own_methods & own_values)
        for kind in (str, int, list, tuple, dict, set, bytes, Exception):
            self.assertFalse((own_methods - {"__init__"} | own_values) & set(dir(kind)))
        for where, node in self.nodes(ast.Attribute):
            self.assertIn(node.attr, METHODS | own_methods | own_values, where)

    def test_methods_are_called_where_they_stand(self):
        own = {inner.name for where, node in self.nodes(ast.ClassDef) for inner in node.body if hasattr(inner, "name")}
        called_ones = {id(node.func) for where, node in self.nodes(ast.Call)}
        for where, node in self.nodes(ast.Attribute):
            if node.attr in METHODS | own:
                self.assertIn(id(node), called_ones, where)

    def test_texts_with_names(self):
        for where, node in self.nodes(ast.FormattedValue):
            self.assertIsInstance(node.value, ast.Name, where)
            self.assertIsNone(node.format_spec, where)
        for where, node in self.nodes(ast.Constant):
            if isinstance(node.value, str):
                self.assertNotIn("%", node.value, where)

    def test_what_a_loop_walks_is_not_changed(self):
        changes = {"append", "clear", "extend", "insert", "pop", "remove", "reverse", "setdefault", "update"}
        for where, loop in self.nodes(ast.For):
            walked = {ast.dump(node) for node in ast.walk(loop.iter) if isinstance(node, (ast.Name, ast.Attribute))}
            for node in ast.walk(loop):
                if called(node) in changes and isinstance(node.func, ast.Attribute):
                    self.assertNotIn(ast.dump(node.func.value), walked, where)

    def test_no_function_calls_itself(self):
        """By name and in however many steps: no answer may rest on how deep calls can go."""
        calls = {}
        for where, node in self.nodes(ast.FunctionDef):
            calls.setdefault(node.name, set()).update(called(inner) for inner in ast.walk(node))
        while calls:
            free = [name for name in calls if not calls[name] & set(calls)]
            self.assertTrue(free, f"these call one another: {sorted(calls)}")
            for name in free:
                del calls[name]

    def test_walked_at_once(self):
        for where, parent, child in self.pairs():
            if called(child) in WALKED:
                walked = isinstance(parent, (ast.For, ast.comprehension)) and parent.iter is child
                walked = walked or called(parent) in WALKERS and parent.args[0] is child
                walked = walked or called(parent) == "join" and isinstance(parent.func.value, ast.Constant)
                self.assertTrue(walked, where)

    def test_sets_are_not_kept(self):
        for where, node in self.nodes(ast.Set):
            self.fail(where)

        def is_set(node):
            return called(node) == "set" or isinstance(node, ast.BinOp) and is_set(node.left) and is_set(node.right)

        for where, parent, child in self.pairs():
            if is_set(child):
                fits = is_set(parent) or called(parent) in ("sorted", "len") and not parent.keywords
                self.assertTrue(fits or isinstance(parent, ast.Compare), where)


if __name__ == "__main__":
    unittest.main()
