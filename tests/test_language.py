"""The rules of the language that can be seen in the files of the package one by one."""

import ast
import builtins
import pathlib
import re
import unittest

PACKAGE = pathlib.Path(__file__).resolve().parent.parent / "freetops"
FILES = sorted(PACKAGE.glob("*.py"))
BUILTINS = """len range enumerate zip min max sum abs sorted reversed int str bool bytes list tuple dict set
frozenset isinstance ord repr any all divmod iter next Exception ValueError TypeError KeyError IndexError LookupError
ZeroDivisionError ArithmeticError OverflowError RuntimeError NotImplementedError NotImplemented True False None
property staticmethod classmethod super""".split()
METHODS = """append clear copy count endswith extend find get index insert isalnum isalpha isdigit islower isspace
isupper items join keys ljust lower lstrip partition pop remove replace reverse rfind rjust rpartition rsplit rstrip
setdefault split splitlines startswith strip update upper values zfill bit_length title capitalize removeprefix
removesuffix rindex add discard""".split()
LIBRARY = {"heapq", "math", "itertools", "collections"}
# words that no file may have outside of comments and docstrings, and names that nothing may have
WORDS = """type typing typing_extensions enum Enum IntEnum StrEnum Flag IntFlag Generic Protocol ABC ABCMeta namedtuple
NamedTuple TypedDict TYPE_CHECKING abstractmethod""".split()
NAMES = "register mro elements open input law version_info with_traceback add_note".split()
STATEMENTS = (ast.FunctionDef, ast.ClassDef, ast.Assign, ast.AugAssign, ast.If, ast.While, ast.For, ast.Return,
              ast.Break, ast.Continue, ast.Pass, ast.Raise, ast.Assert, ast.Delete, ast.Nonlocal, ast.Expr,
              ast.ImportFrom, ast.Try, ast.With, ast.Match)
BARRED = (ast.GeneratorExp, ast.Div, ast.Global, ast.Await, ast.YieldFrom, ast.MatMult, ast.NamedExpr)


class Language(unittest.TestCase):
    def each(self, *kinds):
        for path in FILES:
            for node in ast.walk(ast.parse(path.read_text())):
                if isinstance(node, kinds):
                    yield path.name, node

    def test_files(self):
        self.assertGreater(len(FILES), 14)
        for path in PACKAGE.iterdir():
            self.assertIn(path.suffix or path.name, (".py", "__pycache__"))
        for path in FILES:
            text = path.read_text()
            lines = text.split("\n")
            self.assertLessEqual(len(lines), 399, path.name)
            self.assertLessEqual(max(len(line) for line in lines), 120, path.name)
            self.assertTrue(all(" " <= letter <= "~" or letter == "\n" for letter in text), path.name)
            self.assertFalse([line for line in lines if line != line.rstrip()], path.name)

    def test_imports(self):
        for name, node in self.each(ast.Import):
            self.fail(f"{name}: import")
        for name, node in self.each(ast.ImportFrom):
            self.assertEqual(node.level, 0, name)
            self.assertFalse([item for item in node.names if item.asname or item.name == "*"], name)
            head = node.module.split(".")[0]
            self.assertTrue(head == "freetops" or node.module in LIBRARY, name)

    def test_imports_are_used_and_stand_in_their_own_files(self):
        for path in FILES:
            tree = ast.parse(path.read_text())
            used = {node.id for node in ast.walk(tree) if isinstance(node, ast.Name)}
            for node in tree.body:
                if isinstance(node, ast.ImportFrom) and node.module.startswith("freetops."):
                    other = ast.parse((PACKAGE / f"{node.module.split('.')[1]}.py").read_text())
                    defined = {item.name for item in other.body if hasattr(item, "name")}
                    defined |= {item.targets[0].id for item in other.body if isinstance(item, ast.Assign)}
                    for item in node.names:
                        self.assertIn(item.name, used, path.name)
                        self.assertIn(item.name, defined, path.name)

    def test_no_circles_of_imports(self):
        needs = {path.stem: {node.module.split(".")[1] for node in ast.parse(path.read_text()).body
                             if isinstance(node, ast.ImportFrom) and node.module.startswith("freetops.")}
                 for path in FILES}
        while needs:
            ready = [name for name, others in needs.items() if not others & set(needs)]
            self.assertTrue(ready, sorted(needs))
            needs = {name: others for name, others in needs.items() if name not in ready}

    def test_module_level(self):
        for path in FILES:
            for at, node in enumerate(ast.parse(path.read_text()).body):
                if isinstance(node, ast.Expr):
                    self.assertTrue(at == 0 and isinstance(node.value, ast.Constant), path.name)
                elif isinstance(node, ast.Assign):
                    self.assertIsInstance(node.targets[0], ast.Name, path.name)
                    self.assertNotIn("Call", ast.dump(node.value), path.name)
                else:
                    self.assertIsInstance(node, (ast.ImportFrom, ast.FunctionDef, ast.ClassDef), path.name)

    def test_statements_and_expressions(self):
        for name, node in self.each(ast.stmt):
            self.assertIsInstance(node, STATEMENTS, f"{name}:{node.lineno}")
        for name, node in self.each(*BARRED):
            self.fail(f"{name}:{getattr(node, 'lineno', '')} {type(node).__name__}")
        for name, node in self.each(ast.Constant):
            self.assertNotIsInstance(node.value, (float, complex), name)
            if isinstance(node.value, str):
                self.assertNotIn("%", node.value, name)
        for name, node in self.each(ast.JoinedStr):
            braces = [part.value for part in node.values if isinstance(part, ast.FormattedValue)]
            inner = [part for value in braces for part in ast.walk(value) if isinstance(part, ast.Constant)]
            self.assertFalse([part for part in inner if isinstance(part.value, str)], f"{name}:{node.lineno}")

    def test_functions(self):
        for name, node in self.each(ast.FunctionDef):
            self.assertLessEqual(node.end_lineno - node.lineno + 1, 40, f"{name}: {node.name}")
            for decorator in node.decorator_list:
                self.assertIn(ast.unparse(decorator), ("property", "staticmethod", "classmethod"), name)
            self.assertFalse(node.returns or any(item.annotation for item in node.args.args), name)
            if not node.name.startswith("_"):
                self.assertIsNotNone(ast.get_docstring(node), f"{name}: {node.name}")

    def test_names(self):
        for path in FILES:
            tree = ast.parse(path.read_text())
            imported = {item.name for node in ast.walk(tree) if isinstance(node, ast.ImportFrom) for item in node.names}
            classes = {node.name for node in ast.walk(tree) if isinstance(node, ast.ClassDef)}
            bound = {node.id for node in ast.walk(tree) if isinstance(node, ast.Name) and isinstance(node.ctx, ast.Store)}
            bound |= {node.arg for node in ast.walk(tree) if isinstance(node, ast.arg)}
            self.assertFalse(bound & (imported | classes), path.name)
            caught = {node.name for node in ast.walk(tree) if isinstance(node, ast.ExceptHandler)} - {None}
            self.assertFalse(caught & (bound | imported | classes), path.name)
            bound |= caught
            top = {node.name for node in tree.body if hasattr(node, "name")}
            self.assertFalse((bound | top) & set(dir(builtins)) - {"_"}, path.name)
            read = {node.id for node in ast.walk(tree) if isinstance(node, ast.Name) and isinstance(node.ctx, ast.Load)}
            self.assertFalse(read - bound - top - imported - set(BUILTINS), path.name)
            self.assertNotIn("_", read, path.name)

    def test_words_and_names_that_are_not_used(self):
        for path in FILES:
            tree = ast.parse(path.read_text())
            for node in ast.walk(tree):
                names = [getattr(node, key) for key in ("id", "arg", "attr", "name") if hasattr(node, key)]
                self.assertFalse([name for name in names if name in NAMES or name in WORDS], path.name)
                if isinstance(node, (ast.FunctionDef, ast.ClassDef, ast.Module)) and ast.get_docstring(node):
                    node.body[0].value.value = ""
            for node in ast.walk(tree):
                if isinstance(node, ast.Constant) and isinstance(node.value, str):
                    self.assertFalse([word for word in WORDS if word in re.findall("\\w+", node.value)], path.name)

    def test_stars_in_calls_stand_before_names(self):
        for name, node in self.each(ast.Call):
            for at, item in enumerate(node.args):
                if isinstance(item, ast.Starred):
                    self.assertIsInstance(item.value, (ast.Name, ast.Attribute), f"{name}:{node.lineno}")
                    self.assertEqual(at, len(node.args) - 1, f"{name}:{node.lineno}")

    def test_methods(self):
        own = {node.name for _, node in self.each(ast.FunctionDef)}
        for name, node in self.each(ast.Call):
            if isinstance(node.func, ast.Attribute):
                self.assertIn(node.func.attr, [*METHODS, *own], f"{name}:{node.lineno}")

    def test_names_of_generators_are_theirs_alone(self):
        functions = [(node.name, any(isinstance(item, ast.Yield) for item in ast.walk(node)))
                     for _, node in self.each(ast.FunctionDef)]
        generators = {name for name, yields in functions if yields}
        self.assertFalse([name for name, yields in functions if name in generators and not yields])
        self.assertFalse(generators & set(METHODS))

    def test_no_name_is_a_method_and_an_attribute(self):
        methods = {item.name for _, node in self.each(ast.ClassDef) for item in node.body
                   if isinstance(item, ast.FunctionDef)}
        attributes = {node.attr for _, node in self.each(ast.Attribute) if isinstance(node.ctx, ast.Store)}
        self.assertFalse(methods & attributes)

    def test_sets_are_only_measured(self):
        for name, node in self.each(ast.Set, ast.SetComp):
            self.fail(f"{name}:{node.lineno}")

    def test_powers_are_literal(self):
        for name, node in self.each(ast.BinOp):
            if isinstance(node.op, ast.Pow):
                self.assertIsInstance(node.right, ast.Constant, name)
                self.assertTrue(0 <= node.right.value <= 64, name)


if __name__ == "__main__":
    unittest.main()
