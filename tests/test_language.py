"""The package's files keep to the written part of Python, as far as a look at them tells."""

import ast
import builtins
import pathlib
import re
import unittest

PACKAGE = pathlib.Path(__file__).resolve().parent.parent / "beadstring"

STATEMENTS = (ast.Assign, ast.AugAssign, ast.If, ast.While, ast.For, ast.Return, ast.Break, ast.Continue, ast.Pass,
              ast.Raise, ast.Try, ast.Expr, ast.FunctionDef, ast.ClassDef, ast.ImportFrom)
NOT_EXPRESSIONS = (ast.SetComp, ast.DictComp, ast.GeneratorExp, ast.NamedExpr, ast.Starred, ast.Await, ast.Yield,
                   ast.YieldFrom, ast.Div, ast.MatMult)
OWN_NAMES = """len range enumerate zip min max sum abs sorted reversed int str bool list tuple dict set frozenset
isinstance ord repr any all divmod Exception ValueError TypeError KeyError IndexError LookupError ZeroDivisionError
ArithmeticError OverflowError RuntimeError NotImplementedError AttributeError StopIteration""".split()
METHODS = """append clear copy count endswith extend find get index insert isalnum isalpha isdigit islower isspace
isupper items join keys ljust lower lstrip partition pop remove replace reverse rfind rjust rpartition rsplit rstrip
setdefault split splitlines startswith strip update upper values zfill bit_length""".split()
WORDS = """type typing typing_extensions enum Enum IntEnum StrEnum Flag IntFlag Generic Protocol ABC ABCMeta namedtuple
NamedTuple TypedDict TYPE_CHECKING abstractmethod""".split()


def sources():
    return [(path, path.read_bytes().decode("utf-8")) for path in sorted(PACKAGE.glob("*.py"))]


def nodes():
    for path, text in sources():
        for node in ast.walk(ast.parse(text)):
            yield f"{path.name}:{getattr(node, 'lineno', 0)}", node


def bound_names(node):
    if isinstance(node, ast.Name) and isinstance(node.ctx, ast.Store):
        return [node.id]
    if isinstance(node, ast.arg):
        return [node.arg]
    if isinstance(node, (ast.FunctionDef, ast.ClassDef)):
        return [node.name]
    return []


class Language(unittest.TestCase):
    def test_package_holds_plain_files_alone(self):
        names = [path.name for path in PACKAGE.iterdir() if path.name != "__pycache__"]
        self.assertIn("__init__.py", names)
        for name in names:
            self.assertRegex(name, r"^(__init__|[a-z][a-z0-9_]*)\.py$")

    def test_signs_and_sizes(self):
        for path, text in sources():
            self.assertRegex(text, r"\A[ -~\n]*\Z", path.name)
            lines = text.split("\n")
            self.assertLessEqual(len(lines), 400, path.name)
            self.assertLessEqual(max(len(line) for line in lines), 120, path.name)

    def test_words_that_stand_nowhere(self):
        for path, text in sources():
            self.assertEqual([word for word in re.findall(r"\w+", text) if word in WORDS], [], path.name)
            self.assertNotRegex(text, "dataclass|overload|contextmanager", path.name)

    def test_functions_are_plain_and_small(self):
        for place, node in nodes():
            if isinstance(node, ast.FunctionDef):
                self.assertLessEqual(node.end_lineno - node.lineno + 1, 40, place)
                self.assertEqual(node.decorator_list, [], place)
                given = node.args
                self.assertFalse(given.vararg or given.kwarg or given.kwonlyargs or given.posonlyargs, place)

    def test_statements_and_expressions(self):
        for place, node in nodes():
            if isinstance(node, ast.stmt):
                self.assertIsInstance(node, STATEMENTS, place)
            self.assertNotIsInstance(node, NOT_EXPRESSIONS, place)
            if isinstance(node, ast.Assign):
                self.assertEqual(len(node.targets), 1, place)
            if isinstance(node, (ast.For, ast.While)):
                self.assertEqual(node.orelse, [], place)
            if isinstance(node, ast.Constant):
                self.assertNotIsInstance(node.value, (float, complex, bytes), place)
            if isinstance(node, ast.ListComp):
                self.assertTrue(len(node.generators) == 1 and len(node.generators[0].ifs) <= 1, place)
            if isinstance(node, ast.BinOp) and isinstance(node.op, ast.Pow):
                self.assertIsInstance(node.right, ast.Constant, place)

    def test_imports_are_the_package_s_own_and_go_one_way(self):
        drawn = {}
        for path, text in sources():
            module = f"beadstring.{path.stem}"
            drawn[module] = []
            for node in ast.walk(ast.parse(text)):
                if isinstance(node, ast.ImportFrom):
                    self.assertEqual(node.level, 0, module)
                    self.assertRegex(node.module, r"^beadstring\.[a-z0-9_]+$")
                    self.assertNotIn("*", [alias.name for alias in node.names])
                    drawn[module].append(node.module)
        while drawn:
            free = [module for module, others in drawn.items() if not any(other in drawn for other in others)]
            self.assertNotEqual(free, [], "files draw from one another")
            drawn = {module: others for module, others in drawn.items() if module not in free}

    def test_names(self):
        python_names = set(dir(builtins))
        for place, node in nodes():
            for name in bound_names(node):
                if name != "__init__":
                    self.assertRegex(name, r"^[A-Za-z][A-Za-z0-9_]*$", place)
                    self.assertNotIn(name, python_names, place)
            if isinstance(node, ast.Name) and node.id in python_names:
                self.assertIn(node.id, OWN_NAMES, place)

    def test_no_local_is_called_like_a_class_or_an_import_of_its_file(self):
        for path, text in sources():
            tree = ast.parse(text)
            taken = {alias.asname or alias.name for node in tree.body if isinstance(node, ast.ImportFrom)
                     for alias in node.names}
            taken.update(node.name for node in tree.body if isinstance(node, ast.ClassDef))
            for top in tree.body:
                if isinstance(top, (ast.FunctionDef, ast.ClassDef)):
                    inner = [name for node in ast.walk(top) if node is not top for name in bound_names(node)]
                    self.assertEqual([name for name in inner if name in taken], [], path.name)

    def test_top_of_a_file_is_plain_and_binds_each_name_once(self):
        for path, text in sources():
            names = []
            for place, node in enumerate(ast.parse(text).body):
                if isinstance(node, ast.Assign):
                    ast.literal_eval(node.value)
                    names.append(node.targets[0].id)
                elif isinstance(node, ast.ImportFrom):
                    names.extend(alias.asname or alias.name for alias in node.names)
                elif isinstance(node, (ast.FunctionDef, ast.ClassDef)):
                    names.append(node.name)
                else:
                    self.assertTrue(place == 0 and isinstance(node, ast.Expr), path.name)
            self.assertEqual(len(names), len(set(names)), path.name)

    def test_imports_come_from_the_file_that_defines_the_name(self):
        defined = {f"beadstring.{path.stem}": [name for node in ast.parse(text).body for name in
                                               (bound_names(node.targets[0]) if isinstance(node, ast.Assign)
                                                else bound_names(node))] for path, text in sources()}
        for place, node in nodes():
            if isinstance(node, ast.ImportFrom):
                for alias in node.names:
                    self.assertIn(alias.name, defined[node.module], place)

    def test_is_stands_beside_none_true_and_false_alone(self):
        for place, node in nodes():
            if isinstance(node, ast.Compare) and isinstance(node.ops[0], (ast.Is, ast.IsNot)):
                other = node.comparators[0]
                self.assertTrue(isinstance(other, ast.Constant) and other.value in (None, True, False), place)

    def test_what_is_walked_at_once_is_not_kept(self):
        for place, node in nodes():
            value = getattr(node, "value", None) if isinstance(node, (ast.Assign, ast.Return)) else None
            if isinstance(value, ast.Call) and isinstance(value.func, ast.Name):
                self.assertNotIn(value.func.id, ("zip", "enumerate", "reversed", "range"), place)

    def test_methods(self):
        own = {node.name for place, node in nodes() if isinstance(node, ast.FunctionDef)}
        python_values = set()
        for value in ("", 0, [], {}, (), set(), b""):
            python_values.update(dir(value))
        for place, node in nodes():
            if isinstance(node, ast.Call) and isinstance(node.func, ast.Attribute):
                self.assertIn(node.func.attr, METHODS + sorted(own), place)
            elif isinstance(node, ast.Attribute) and isinstance(node.ctx, ast.Store):
                self.assertNotIn(node.attr, python_values, place)


if __name__ == "__main__":
    unittest.main()
