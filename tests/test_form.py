"""The form of the package's files: those rules of LANGUAGE.md that a walk over the files can see."""

import ast
import builtins
import os
import re
import unittest

FOLDER = os.path.join(os.path.dirname(os.path.abspath(__file__)), "..", "chancehall")

STATEMENTS = (
    ast.Module, ast.ImportFrom, ast.FunctionDef, ast.ClassDef, ast.Assign, ast.AugAssign, ast.If, ast.While,
    ast.For, ast.Return, ast.Break, ast.Continue, ast.Pass, ast.Raise, ast.Try, ast.ExceptHandler, ast.Expr,
)
EXPRESSIONS = (
    ast.Constant, ast.Name, ast.List, ast.Tuple, ast.Dict, ast.Set, ast.BinOp, ast.UnaryOp, ast.BoolOp,
    ast.Compare, ast.IfExp, ast.Call, ast.Attribute, ast.Subscript, ast.Slice, ast.ListComp, ast.Lambda,
    ast.JoinedStr, ast.FormattedValue,
)
SMALL_PARTS = (
    ast.operator, ast.unaryop, ast.boolop, ast.cmpop, ast.expr_context, ast.arguments, ast.arg, ast.keyword,
    ast.comprehension, ast.alias,
)
OWN_NAMES = set(
    "len range enumerate zip min max sum abs sorted reversed int str bool list tuple dict set frozenset "
    "isinstance ord repr any all divmod Exception ValueError TypeError KeyError IndexError LookupError "
    "ZeroDivisionError ArithmeticError OverflowError RuntimeError NotImplementedError AttributeError "
    "StopIteration".split()
)
UNDERSCORED = set("__init__ __eq__ __repr__ __str__ __len__".split())
METHODS = set(
    "append clear copy count endswith extend find get index insert isalnum isalpha isdigit islower isspace "
    "isupper items join keys ljust lower lstrip partition pop remove replace reverse rfind rjust rpartition "
    "rsplit rstrip setdefault split splitlines startswith strip update upper values zfill bit_length".split()
)
FREE_VALUES = set("count index title find get join lower upper split strip copy add".split())
NOT_USED = set("register mro elements open input version_info with_traceback add_note format format_map".split())
WORDS = re.compile(
    r"\b(type|typing|typing_extensions|enum|Enum|IntEnum|StrEnum|Flag|IntFlag|Generic|Protocol|ABC|ABCMeta|"
    r"namedtuple|NamedTuple|TypedDict|TYPE_CHECKING|abstractmethod)\b|dataclass|overload|contextmanager"
)


def files():
    return sorted(name for name in os.listdir(FOLDER) if name != "__pycache__")


def text_of(name):
    with open(os.path.join(FOLDER, name), encoding="utf-8", newline="") as file:
        return file.read()


def trees():
    return [(name, ast.parse(text_of(name))) for name in files()]


def drawn_from(tree):
    rows = [node for node in ast.walk(tree) if isinstance(node, ast.ImportFrom)]
    return [row.module.split(".")[-1] + ".py" for row in rows]


def defined_in(tree):
    return {node.name for node in ast.walk(tree) if isinstance(node, (ast.FunctionDef, ast.ClassDef))}


def bound_in(tree):
    names = [node.id for node in ast.walk(tree) if isinstance(node, ast.Name) and isinstance(node.ctx, ast.Store)]
    names += [node.arg for node in ast.walk(tree) if isinstance(node, ast.arg)]
    names += [node.name for node in ast.walk(tree) if isinstance(node, ast.ExceptHandler) and node.name]
    return set(names)


class Files(unittest.TestCase):
    def test_names_of_files(self):
        self.assertIn("__init__.py", files())
        for name in files():
            self.assertRegex(name, r"\A([a-z][a-z0-9_]*|__init__)\.py\Z")
            self.assertNotIn(name[:-3], dir(builtins))

    def test_signs_and_sizes(self):
        for name in files():
            text = text_of(name)
            self.assertRegex(text, r"\A[ -~\n]*\Z", name)
            rows = text.split("\n")
            self.assertLessEqual(len(rows), 400, name)
            self.assertLessEqual(max(len(row) for row in rows), 120, name)

    def test_words_that_stand_nowhere(self):
        for name in files():
            self.assertIsNone(WORDS.search(text_of(name)), name)

    def test_no_files_draw_from_one_another(self):
        draws = {name: drawn_from(tree) for name, tree in trees()}
        while draws:
            free = [name for name in draws if not any(other in draws for other in draws[name])]
            self.assertTrue(free, sorted(draws))
            for name in free:
                draws.pop(name)


class Code(unittest.TestCase):
    def each(self, kind):
        for name, tree in trees():
            for node in ast.walk(tree):
                if isinstance(node, kind):
                    yield node, f"{name}:{getattr(node, 'lineno', 0)}"

    def test_only_parts_of_the_language_that_are_kept_to(self):
        for node, place in self.each(ast.AST):
            self.assertIsInstance(node, STATEMENTS + EXPRESSIONS + SMALL_PARTS, place)
            self.assertNotIsInstance(node, (ast.Div, ast.MatMult), place)

    def test_imports(self):
        bound = {name: defined_in(tree) | bound_in(tree) for name, tree in trees()}
        for node, place in self.each(ast.ImportFrom):
            self.assertEqual(node.level, 0, place)
            self.assertRegex(node.module, r"\Achancehall\.[a-z0-9_]+\Z", place)
            for alias in node.names:
                self.assertIn(alias.name, bound[node.module.split(".")[1] + ".py"], place)

    def test_defs(self):
        for node, place in self.each(ast.FunctionDef):
            self.assertEqual(node.decorator_list, [], place)
            self.assertLessEqual(node.end_lineno - node.lineno + 1, 40, place)
            given = node.args
            self.assertFalse(given.vararg or given.kwarg or given.kwonlyargs or given.posonlyargs, place)

    def test_classes(self):
        for node, place in self.each(ast.ClassDef):
            self.assertEqual(node.decorator_list + node.keywords, [], place)
            self.assertLessEqual(len(node.bases), 1, place)
            for part in node.body:
                self.assertIsInstance(part, (ast.FunctionDef, ast.Expr, ast.Pass), place)

    def test_assignments_and_loops(self):
        for node, place in self.each((ast.Assign, ast.For, ast.While, ast.Try)):
            if isinstance(node, ast.Assign):
                self.assertEqual(len(node.targets), 1, place)
            elif isinstance(node, ast.Try):
                self.assertEqual(node.finalbody, [], place)
            else:
                self.assertEqual(node.orelse, [], place)

    def test_written_values(self):
        for node, place in self.each(ast.Constant):
            self.assertTrue(node.value is None or isinstance(node.value, (int, str)), place)
            if isinstance(node.value, str):
                self.assertNotIn("%", node.value, place)

    def test_names(self):
        for name, tree in trees():
            defined = defined_in(tree)
            bound = bound_in(tree)
            imported = {alias.name for node in ast.walk(tree) if isinstance(node, ast.ImportFrom)
                        for alias in node.names}
            for one in defined | bound | imported:
                self.assertTrue(one in UNDERSCORED or not one.startswith("_"), (name, one))
            self.assertEqual((defined | bound) & (set(dir(builtins)) - UNDERSCORED), set(), name)
            self.assertEqual(bound & imported, set(), name)
            used = {node.id for node in ast.walk(tree) if isinstance(node, ast.Name)}
            self.assertEqual(used - defined - bound - imported - OWN_NAMES, set(), name)

    def test_attributes(self):
        own = set()
        for name, tree in trees():
            own |= defined_in(tree)
        kept = {node.attr for node, place in self.each(ast.Attribute) if isinstance(node.ctx, ast.Store)}
        for node, place in self.each(ast.Attribute):
            self.assertIn(node.attr, METHODS | own | kept | UNDERSCORED, place)

    def test_no_name_is_a_method_here_and_a_value_there(self):
        methods = set()
        for node, place in self.each(ast.ClassDef):
            methods |= {part.name for part in node.body if isinstance(part, ast.FunctionDef)}
        for node, place in self.each(ast.Attribute):
            if isinstance(node.ctx, ast.Store):
                self.assertNotIn(node.attr, methods, place)

    def test_no_own_method_or_value_is_called_like_one_of_pythons_values(self):
        taken = set()
        for value in ["", 0, [], (), {}, set(), b""]:
            taken |= set(dir(value))
        for node, place in self.each(ast.ClassDef):
            names = {part.name for part in node.body if isinstance(part, ast.FunctionDef)}
            self.assertEqual(names & (taken - UNDERSCORED - METHODS - {"add", "discard"}), set(), place)
        for node, place in self.each(ast.Attribute):
            if isinstance(node.ctx, ast.Store):
                self.assertNotIn(node.attr, taken - FREE_VALUES, place)

    def test_names_that_are_not_used(self):
        for node, place in self.each((ast.Name, ast.Attribute, ast.FunctionDef, ast.arg)):
            for part in ["id", "attr", "name", "arg"]:
                self.assertNotIn(getattr(node, part, ""), NOT_USED, place)

    def test_errors_that_are_taken_are_the_packages_own(self):
        own = set()
        for name, tree in trees():
            own |= {node.name for node in ast.walk(tree) if isinstance(node, ast.ClassDef)}
        for node, place in self.each(ast.ExceptHandler):
            named = node.type.elts if isinstance(node.type, ast.Tuple) else [node.type]
            for part in named:
                self.assertIn(part.id, own | {"KeyError", "ZeroDivisionError", "StopIteration"}, place)
        for node, place in self.each(ast.Raise):
            self.assertIsInstance(node.exc, ast.Call, place)

    def test_keywords_of_pythons_own(self):
        allowed = {"sorted": {"key", "reverse"}, "min": {"key", "default"}, "max": {"key", "default"},
                   "sum": {"start"}, "enumerate": {"start"}, "zip": {"strict"}}
        for node, place in self.each(ast.Call):
            given = {word.arg for word in node.keywords}
            if isinstance(node.func, ast.Name) and node.func.id in OWN_NAMES:
                self.assertLessEqual(given, allowed.get(node.func.id, set()), place)
            if isinstance(node.func, ast.Attribute) and node.func.attr in METHODS:
                self.assertEqual(given, set(), place)

    def test_names_of_a_files_top_are_bound_once(self):
        for name, tree in trees():
            bound = []
            for node in tree.body:
                if isinstance(node, ast.Assign):
                    bound.append(node.targets[0].id)
                elif isinstance(node, (ast.FunctionDef, ast.ClassDef)):
                    bound.append(node.name)
                elif isinstance(node, ast.ImportFrom):
                    bound += [alias.name for alias in node.names]
            self.assertEqual(sorted(bound), sorted(set(bound)), name)

    def test_walks_are_made_on_the_spot(self):
        kept = ["zip", "enumerate", "reversed", "range", "items", "keys", "values"]
        for name, tree in trees():
            walked = []
            for node in ast.walk(tree):
                if isinstance(node, (ast.For, ast.comprehension)):
                    walked.append(node.iter)
                elif isinstance(node, ast.Call):
                    walked += node.args
            for node in ast.walk(tree):
                if isinstance(node, ast.Call):
                    called = getattr(node.func, "id", getattr(node.func, "attr", ""))
                    if called in kept:
                        self.assertIn(node, walked, f"{name}:{node.lineno}")

    def test_is_stands_beside_none_and_truths(self):
        for node, place in self.each(ast.Compare):
            for sign, right in zip(node.ops, node.comparators):
                if isinstance(sign, (ast.Is, ast.IsNot)):
                    self.assertIsInstance(right, ast.Constant, place)


if __name__ == "__main__":
    unittest.main()
