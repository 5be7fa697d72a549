"""The package's files keep to the small part of Python that the program is written in.

Not every rule can be seen by a walk over the code; those that can are looked at here. Where it is
simpler, less is allowed than by the rules: no sets, no powers, no keywords and none of Python's own
errors taken, as the program needs none.
"""

import ast
import builtins
import pathlib
import re
import unittest

PACKAGE = pathlib.Path(__file__).resolve().parent.parent / "postbooks"

# L8: Python's own names that may be used.
OWN = set(
    "len range enumerate zip min max sum abs sorted reversed int str bool list tuple dict set frozenset "
    "isinstance ord repr any all divmod Exception ValueError TypeError KeyError IndexError LookupError "
    "ZeroDivisionError ArithmeticError OverflowError RuntimeError NotImplementedError AttributeError "
    "StopIteration".split()
)
# L17: words that stand nowhere, remarks and texts too.
WORDS = (
    "type typing typing_extensions enum Enum IntEnum StrEnum Flag IntFlag Generic Protocol ABC ABCMeta "
    "namedtuple NamedTuple TypedDict TYPE_CHECKING abstractmethod"
).split()
PARTS = ("dataclass", "overload", "contextmanager")
# L17: names that are not used.
UNUSED = set(
    "register mro elements open input version_info with_traceback add_note attrgetter breakpoint builtins "
    "compile copyright credits delattr dir eval exec exit gc getattr globals hasattr help id importlib "
    "license locals methodcaller os quit setattr super sys vars format format_map".split()
)
# L25: methods of Python's own values.
METHODS = set(
    "append clear copy count endswith extend find get index insert isalnum isalpha isdigit islower isspace "
    "isupper items join keys ljust lower lstrip partition pop remove replace reverse rfind rjust rpartition "
    "rsplit rstrip setdefault split splitlines startswith strip update upper values zfill bit_length".split()
)
DUNDERS = {"__init__", "__eq__", "__repr__", "__str__", "__len__"}
# L6 and L7: the statements and expressions that there are.
NODES = tuple(getattr(ast, word) for word in (
    "Module FunctionDef arguments arg ClassDef Assign AugAssign If While For Return Break Continue Pass "
    "Raise Try ExceptHandler Expr ImportFrom alias Constant List Tuple Dict Set BinOp UnaryOp BoolOp "
    "Compare IfExp Call keyword Attribute Subscript Slice ListComp comprehension JoinedStr FormattedValue "
    "Name Lambda expr_context operator unaryop boolop cmpop"
).split())


def trees():
    return {path: ast.parse(path.read_text("utf-8")) for path in sorted(PACKAGE.glob("*.py"))}


def bound_names(node):
    if isinstance(node, (ast.FunctionDef, ast.ClassDef)):
        return [node.name]
    if isinstance(node, ast.arg):
        return [node.arg]
    if isinstance(node, ast.Name) and isinstance(node.ctx, ast.Store):
        return [node.id]
    if isinstance(node, ast.ExceptHandler) and node.name:
        return [node.name]
    return []


def top_names(node):
    if isinstance(node, ast.Assign):
        return [node.targets[0].id]
    return bound_names(node)


def nodes_of(kind):
    return [(path, node) for path, tree in trees().items() for node in ast.walk(tree) if isinstance(node, kind)]


def called(node):
    return node.func.attr if isinstance(node.func, ast.Attribute) else getattr(node.func, "id", None)


class Files(unittest.TestCase):
    def test_nothing_but_plain_files(self):
        names = [path.name for path in PACKAGE.iterdir() if path.name != "__pycache__"]
        self.assertIn("__init__.py", names)
        for name in names:
            self.assertRegex(name, r"\A(__init__|__main__|[a-z][a-z0-9_]*)\.py\Z")
            self.assertFalse(name.startswith("test"), name)
            self.assertNotIn(name[:-3], dir(builtins))

    def test_signs_and_sizes(self):
        for path in trees():
            text = path.read_bytes().decode("utf-8")
            self.assertRegex(text, r"\A[ -~\n]*\Z")
            lines = text.split("\n")
            self.assertLessEqual(len(lines), 400, path)
            self.assertLessEqual(max(len(line) for line in lines), 120, path)

    def test_words_that_stand_nowhere(self):
        for path in trees():
            text = path.read_text("utf-8")
            for word in WORDS:
                self.assertIsNone(re.search(rf"\b{word}\b", text), (path, word))
            for part in PARTS:
                self.assertNotIn(part, text, path)


class Code(unittest.TestCase):
    def test_statements_and_expressions(self):
        for path, node in nodes_of(ast.AST):
            self.assertIsInstance(node, NODES, (path, ast.dump(node)))
            self.assertNotIsInstance(node, (ast.Div, ast.MatMult))
            if isinstance(node, ast.Constant):
                self.assertIn(type(node.value), (int, str, bool, type(None)), path)
            if isinstance(node, ast.Assign):
                self.assertEqual(len(node.targets), 1, path)
            if isinstance(node, (ast.For, ast.While, ast.Try)):
                self.assertFalse(getattr(node, "finalbody", []), path)
            if isinstance(node, (ast.For, ast.While)):
                self.assertFalse(node.orelse, path)
            if isinstance(node, ast.ListComp):
                self.assertEqual(len(node.generators), 1, path)
                self.assertLessEqual(len(node.generators[0].ifs), 1, path)

    def test_a_row_by_itself_is_a_call_or_a_files_docstring(self):
        for path, tree in trees().items():
            for node in ast.walk(tree):
                if isinstance(node, ast.Expr) and node is not tree.body[0]:
                    self.assertIsInstance(node.value, ast.Call, path)

    def test_the_top_of_a_file(self):
        for path, tree in trees().items():
            self.assertTrue(ast.get_docstring(tree), path)
            kinds = (ast.ImportFrom, ast.FunctionDef, ast.ClassDef, ast.Assign)
            names = []
            for node in tree.body[1:]:
                self.assertIsInstance(node, kinds, path)
                names += top_names(node)
                names += [alias.name for alias in getattr(node, "names", [])]
            self.assertEqual(len(set(names)), len(names), path)

    def test_imports_come_from_the_file_that_defines_the_name(self):
        tops = {f"postbooks.{path.stem}": tree.body for path, tree in trees().items()}
        for path, node in nodes_of(ast.ImportFrom):
            self.assertEqual(node.level, 0, path)
            defined = [name for inner in tops[node.module] for name in top_names(inner)]
            for alias in node.names:
                self.assertIn(alias.name, defined, path)
                self.assertIsNone(alias.asname, path)

    def test_no_two_files_draw_from_one_another(self):
        drawn = {f"postbooks.{path.stem}": set() for path in trees()}
        for path, node in nodes_of(ast.ImportFrom):
            drawn[f"postbooks.{path.stem}"].add(node.module)
        while drawn:
            free = [name for name, others in drawn.items() if not others & set(drawn)]
            self.assertTrue(free, drawn)
            drawn = {name: others for name, others in drawn.items() if name not in free}

    def test_what_is_walked_at_once(self):
        walks = {"zip", "enumerate", "reversed", "range", "items", "keys", "values"}
        takers = {"list", "tuple", "dict", "sorted", "sum", "any", "all", "enumerate", "zip", "min", "max", "join"}
        walked = set()
        for path, node in nodes_of((ast.For, ast.comprehension)):
            walked.add((path, ast.unparse(node.iter), node.iter.lineno, node.iter.col_offset))
        for path, node in nodes_of(ast.Call):
            if called(node) in takers and node.args:
                first = node.args[0]
                walked.add((path, ast.unparse(first), first.lineno, first.col_offset))
        for path, node in nodes_of(ast.Call):
            if called(node) in walks:
                self.assertIn((path, ast.unparse(node), node.lineno, node.col_offset), walked)

    def test_no_sets_and_no_powers(self):
        for path, node in nodes_of((ast.Set, ast.Pow, ast.Name)):
            self.assertIsInstance(node, ast.Name, path)
            self.assertNotIn(node.id, ("set", "frozenset"), path)

    def test_calls_have_no_keywords(self):
        for path, node in nodes_of(ast.Call):
            self.assertFalse(node.keywords, (path, node.lineno))

    def test_what_a_file_holds_at_its_top_is_a_number_or_a_text(self):
        for path, tree in trees().items():
            for node in tree.body:
                if isinstance(node, ast.Assign):
                    self.assertIsInstance(node.value, ast.Constant, path)

    def test_functions(self):
        for path, node in nodes_of(ast.FunctionDef):
            self.assertLessEqual(node.end_lineno - node.lineno + 1, 40, node.name)
            spare = (node.args.vararg, node.args.kwarg, node.args.kwonlyargs, node.args.posonlyargs)
            self.assertFalse(any(spare), node.name)
            self.assertFalse(node.decorator_list, node.name)
            self.assertIsNone(node.returns, node.name)
            self.assertFalse([arg for arg in node.args.args if arg.annotation], node.name)

    def test_classes(self):
        methods, values = set(), set()
        for path, node in nodes_of(ast.ClassDef):
            self.assertLessEqual(len(node.bases), 1, node.name)
            self.assertFalse(node.decorator_list or node.keywords, node.name)
            names = [inner.name for inner in node.body if isinstance(inner, ast.FunctionDef)]
            self.assertEqual(len(set(names)), len(names), node.name)
            methods.update(names)
            for inner in node.body:
                self.assertIsInstance(inner, (ast.FunctionDef, ast.Pass), node.name)
        for path, node in nodes_of(ast.Attribute):
            if isinstance(node.ctx, ast.Store):
                values.add(node.attr)
        self.assertEqual(methods & values, set())

    def test_errors_of_the_programs_own_alone_are_taken_by_name(self):
        own = {node.name for path, node in nodes_of(ast.ClassDef)}
        for path, node in nodes_of(ast.ExceptHandler):
            self.assertIsNotNone(node.type, path)
            taken = {inner.id for inner in ast.walk(node.type) if isinstance(inner, ast.Name)}
            self.assertLessEqual(taken, own, path)

    def test_is_stands_beside_none_true_and_false_alone(self):
        for path, node in nodes_of(ast.Compare):
            for how, right in zip(node.ops, node.comparators):
                if isinstance(how, (ast.Is, ast.IsNot)):
                    self.assertIsInstance(right, ast.Constant, path)
                    self.assertIn(right.value, (None, True, False), path)


class Names(unittest.TestCase):
    def test_names_that_are_bound(self):
        for path, node in nodes_of(ast.AST):
            for name in bound_names(node):
                if name in DUNDERS and isinstance(node, ast.FunctionDef):
                    continue
                self.assertRegex(name, r"\A[A-Za-z][A-Za-z0-9_]*\Z")
                self.assertNotIn(name, dir(builtins), path)
                self.assertNotIn(name, UNUSED, path)

    def test_no_local_is_called_like_a_class_or_an_import_of_its_file(self):
        for path, tree in trees().items():
            taken = {node.name for node in tree.body if isinstance(node, ast.ClassDef)}
            for node in tree.body:
                if isinstance(node, ast.ImportFrom):
                    taken.update(alias.name for alias in node.names)
            for node in ast.walk(tree):
                if isinstance(node, (ast.arg, ast.Name)):
                    self.assertFalse(taken & set(bound_names(node)), path)

    def test_pythons_own_names_that_are_used(self):
        for path, node in nodes_of(ast.Name):
            self.assertNotIn(node.id, UNUSED, path)
            if node.id in dir(builtins):
                self.assertIn(node.id, OWN, path)

    def test_methods_that_are_called(self):
        own = {node.name for path, node in nodes_of(ast.FunctionDef)}
        for path, node in nodes_of(ast.Attribute):
            self.assertNotIn(node.attr, UNUSED, path)
        for path, node in nodes_of(ast.Call):
            if isinstance(node.func, ast.Attribute):
                self.assertIn(node.func.attr, own | METHODS, path)


class Texts(unittest.TestCase):
    def test_texts(self):
        for path, node in nodes_of(ast.Constant):
            if isinstance(node.value, str):
                self.assertNotIn("%", node.value, path)

    def test_f_strings_hold_plain_names(self):
        for path, node in nodes_of(ast.FormattedValue):
            self.assertIsInstance(node.value, ast.Name, path)
            self.assertIn(node.conversion, (-1, ord("r")), path)
            self.assertIsNone(node.format_spec, path)


if __name__ == "__main__":
    unittest.main()
