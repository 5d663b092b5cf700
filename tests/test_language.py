"""Those rules of LANGUAGE.md that a short look at the files can show; it does not show all of them."""

import ast
import builtins
import pathlib
import re
import unittest

PACKAGE = pathlib.Path(__file__).resolve().parent.parent / "heapwright"

BUILTINS = """len range enumerate zip min max sum abs sorted reversed int str bool bytes list tuple dict set
frozenset isinstance ord repr any all divmod Exception ValueError TypeError KeyError IndexError LookupError
ZeroDivisionError ArithmeticError OverflowError RuntimeError NotImplementedError AttributeError StopIteration
NotImplemented super property staticmethod classmethod""".split()

BARRED_WORDS = """type typing typing_extensions enum Enum IntEnum StrEnum Flag IntFlag Generic Protocol ABC
ABCMeta namedtuple NamedTuple TypedDict TYPE_CHECKING abstractmethod""".split()

METHODS = """append clear copy count endswith extend find get index insert isalnum isalpha isdigit islower isspace
isupper items join keys ljust lower lstrip partition pop remove replace reverse rfind rjust rpartition rsplit rstrip
setdefault split splitlines startswith strip update upper values zfill bit_length add discard sort""".split()

BARRED_NODES = (ast.Global, ast.Import, ast.AsyncFunctionDef, ast.AsyncFor, ast.AsyncWith, ast.Await, ast.Div)


def files():
    return sorted(PACKAGE.rglob("*.py"))


def nodes():
    """Each node of each file, with a label that says where it stands."""
    for path in files():
        for node in ast.walk(ast.parse(path.read_text(encoding="ascii"))):
            yield f"{path.name}:{getattr(node, 'lineno', 0)}", node


def name_of(node):
    """The name that a node uses or defines, or an empty text."""
    for field in ("id", "arg", "attr", "name"):
        if isinstance(getattr(node, field, None), str):
            return getattr(node, field)
    return ""


class LanguageTest(unittest.TestCase):
    def test_the_folder_holds_only_plainly_named_files(self):
        self.assertIn(PACKAGE / "__init__.py", files())
        for path in PACKAGE.rglob("*"):
            if "__pycache__" not in path.parts:
                self.assertRegex(path.name, r"^(__init__|[a-z][a-z0-9_]*)\.py$")

    def test_sizes_and_signs(self):
        for path in files():
            with self.subTest(path.name):
                text = path.read_bytes().decode("ascii")
                self.assertRegex(text, r"^[\n -~]*$")
                self.assertLessEqual(len(text.splitlines()), 400)
                self.assertLessEqual(max(map(len, text.splitlines()), default=0), 120)
        for where, node in nodes():
            if isinstance(node, ast.FunctionDef):
                self.assertLessEqual(node.end_lineno - node.lineno + 1, 40, where)

    def test_barred_words(self):
        for path in files():
            with self.subTest(path.name):
                words = re.findall(r"\w+", path.read_text())
                self.assertEqual([w for w in words if w in BARRED_WORDS], [])
                self.assertEqual([w for w in words if re.search("dataclass|overload|contextmanager", w)], [])

    def test_imports(self):
        for where, node in nodes():
            if isinstance(node, ast.ImportFrom):
                self.assertEqual((node.level, node.col_offset), (0, 0), where)
                self.assertRegex(node.module, r"^(heapwright\.[a-z0-9_]+|__future__)$", where)
                self.assertNotIn("*", [name.name for name in node.names], where)

    def test_imports_name_the_very_file_that_defines_the_name(self):
        for where, node in nodes():
            if isinstance(node, ast.ImportFrom) and node.module != "__future__":
                text = (PACKAGE / (node.module.split(".")[1] + ".py")).read_text()
                for name in node.names:
                    self.assertRegex(text, rf"(?m)^((def|class) {name.name}\b|{name.name} = )", where)

    def test_no_two_files_import_from_each_other(self):
        below = {path.stem: re.findall(r"(?m)^from heapwright\.(\w+) import", path.read_text()) for path in files()}
        while below:
            ends = [name for name in below if not any(other in below for other in below[name])]
            self.assertNotEqual(ends, [], below)
            below = {name: below[name] for name in below if name not in ends}

    def test_is_and_powers(self):
        for where, node in nodes():
            if isinstance(node, ast.Compare):
                for sign, other in zip(node.ops, node.comparators):
                    if isinstance(sign, (ast.Is, ast.IsNot)):
                        self.assertIn(repr(getattr(other, "value", other)), ("None", "True", "False"), where)
            if isinstance(node, ast.BinOp) and isinstance(node.op, ast.Pow):
                self.assertIn(getattr(node.right, "value", None), range(65), where)

    def test_methods(self):
        own = {method.name for where, node in nodes() if isinstance(node, ast.ClassDef)
               for method in node.body if isinstance(method, ast.FunctionDef)}
        for where, node in nodes():
            if isinstance(node, ast.Call) and isinstance(node.func, ast.Attribute):
                self.assertIn(node.func.attr, own.union(METHODS), where)

    def test_no_local_name_is_that_of_an_import_a_class_or_a_builtin(self):
        for path in files():
            tree = ast.parse(path.read_text())
            barred = {name.asname or name.name for node in tree.body if isinstance(node, ast.ImportFrom)
                      for name in node.names}
            barred |= {node.name for node in tree.body if isinstance(node, ast.ClassDef)}
            for node in ast.walk(tree):
                stored = isinstance(node, ast.Name) and isinstance(node.ctx, (ast.Store, ast.Del))
                if stored or isinstance(node, ast.arg):
                    self.assertNotIn(name_of(node), barred, path.name)
                    self.assertFalse(hasattr(builtins, name_of(node)), f"{path.name} {name_of(node)}")

    def test_no_name_is_a_method_and_an_attribute(self):
        classes = [node for where, node in nodes() if isinstance(node, ast.ClassDef)]
        methods = {part.name for node in classes for part in node.body if isinstance(part, ast.FunctionDef)}
        stored = {node.attr for where, node in nodes()
                  if isinstance(node, ast.Attribute) and isinstance(node.ctx, ast.Store)}
        read = {node.attr for where, node in nodes() if isinstance(node, ast.Attribute)}
        self.assertEqual(methods & stored, set())
        self.assertEqual(read - methods - set(METHODS), stored)

    def test_what_is_kept_in_sets_is_kept_in_a_name_of_its_own(self):
        for where, node in nodes():
            if isinstance(node, ast.FunctionDef):
                kept = [part.targets[0].id for part in ast.walk(node) if isinstance(part, ast.Assign)
                        and (isinstance(part.value, (ast.Set, ast.SetComp))
                             or isinstance(part.value, ast.Call) and name_of(part.value.func) == "set")]
                stored = [part.id for part in ast.walk(node)
                          if isinstance(part, ast.Name) and isinstance(part.ctx, ast.Store)]
                for name in kept:
                    self.assertEqual(stored.count(name), 1, where)

    def test_no_function_calls_itself(self):
        for path in files():
            for node in ast.parse(path.read_text()).body:
                if isinstance(node, ast.FunctionDef):
                    called = [name_of(part.func) for part in ast.walk(node) if isinstance(part, ast.Call)]
                    self.assertNotIn(node.name, called, path.name)

    def test_barred_statements_and_values(self):
        for where, node in nodes():
            self.assertNotIsInstance(node, BARRED_NODES, where)
            if isinstance(node, ast.Constant):
                self.assertNotIsInstance(node.value, (float, complex), where)
                self.assertNotIn("%", node.value if isinstance(node.value, str) else "", where)

    def test_names(self):
        for where, node in nodes():
            name = name_of(node)
            self.assertFalse(name.startswith("_") and not re.match("__[a-z]+__$", name), where)
            if isinstance(node, (ast.Name, ast.arg)):
                self.assertFalse(hasattr(builtins, name) and name not in BUILTINS, where)


if __name__ == "__main__":
    unittest.main()
