"""The part of Python that the package keeps to, as far as it can be seen file by file."""

import ast
import pathlib
import re
import unittest

PACKAGE = pathlib.Path(__file__).resolve().parent.parent / "mendedimage"
FILES = sorted(PACKAGE.rglob("*.py"))

BUILT_IN = set(
    "len range enumerate zip min max sum abs sorted reversed int str bool list tuple dict set frozenset isinstance "
    "ord repr any all divmod Exception ValueError KeyError IndexError LookupError ZeroDivisionError ArithmeticError "
    "OverflowError RuntimeError NotImplementedError StopIteration".split()
)
METHODS = set(
    "append clear copy count endswith extend find get index insert isalnum isalpha isdigit islower isspace isupper "
    "items join keys ljust lower lstrip partition pop remove replace reverse rfind rjust rpartition rsplit rstrip "
    "setdefault split splitlines startswith strip update upper values zfill bit_length".split()
)
WORDS = (
    "type typing typing_extensions enum Enum IntEnum StrEnum Flag IntFlag Generic Protocol ABC ABCMeta namedtuple "
    "NamedTuple TypedDict TYPE_CHECKING abstractmethod"
).split()
NEVER = set("register mro elements open input version_info with_traceback add_note format format_map".split())
NODES = (
    ast.With, ast.Match, ast.Delete, ast.Global, ast.Nonlocal, ast.Assert, ast.Yield, ast.YieldFrom, ast.Await,
    ast.AsyncFunctionDef, ast.AsyncFor, ast.AsyncWith, ast.SetComp, ast.DictComp, ast.GeneratorExp, ast.NamedExpr,
    ast.Starred, ast.Div, ast.MatMult, ast.Import, ast.AnnAssign, ast.Set,
)
OWN_METHODS = ("__init__", "__eq__", "__repr__", "__str__", "__len__")


def trees():
    return [(file, ast.parse(file.read_text())) for file in FILES]


def nodes(*kinds):
    for file, tree in trees():
        for node in ast.walk(tree):
            if isinstance(node, kinds):
                yield file, node


class Language(unittest.TestCase):
    def test_only_plain_files_lie_in_the_package(self):
        for path in PACKAGE.rglob("*"):
            if "__pycache__" not in path.parts:
                self.assertTrue(path.is_dir() or re.fullmatch(r"[a-z][a-z0-9_]*\.py|__init__\.py", path.name), path)

    def test_sizes_and_signs(self):
        for file in FILES:
            whole = file.read_text()
            self.assertLessEqual(len(whole.splitlines()), 400, file)
            self.assertTrue(all(sign == "\n" or " " <= sign <= "~" for sign in whole), file)
            for line in whole.splitlines():
                self.assertLessEqual(len(line), 120, (file, line))
        for file, node in nodes(ast.FunctionDef):
            self.assertLessEqual(node.end_lineno - node.lineno + 1, 40, (file, node.name))

    def test_words_that_stand_nowhere(self):
        for file in FILES:
            whole = file.read_text()
            found = [word for word in WORDS if re.search(rf"\b{word}\b", whole)]
            found += [word for word in ("dataclass", "overload", "contextmanager") if word in whole]
            self.assertEqual(found, [], file)

    def test_statements_and_expressions(self):
        for file, node in nodes(*NODES):
            self.fail((file, node.lineno, ast.dump(node)))
        for file, node in nodes(ast.Constant):
            self.assertIn(type(node.value), (int, str, bool, type(None)), (file, node.lineno))
        for file, node in nodes(ast.Assign):
            self.assertEqual(len(node.targets), 1, (file, node.lineno))
        for file, node in nodes(ast.For, ast.While):
            self.assertEqual(node.orelse, [], (file, node.lineno))
        for file, node in nodes(ast.Try):
            self.assertEqual(node.finalbody, [], (file, node.lineno))
        for file, node in nodes(ast.ListComp):
            self.assertEqual(len(node.generators), 1, (file, node.lineno))
            self.assertLessEqual(len(node.generators[0].ifs), 1, (file, node.lineno))
        for file, node in nodes(ast.BinOp):
            self.assertFalse(isinstance(node.op, ast.Pow) and not isinstance(node.right, ast.Constant), file)

    def test_functions_and_classes_are_plain(self):
        for file, node in nodes(ast.FunctionDef):
            self.assertEqual(node.decorator_list, [], (file, node.name))
            self.assertFalse(node.args.vararg or node.args.kwarg or node.args.kwonlyargs, (file, node.name))
        for file, node in nodes(ast.ClassDef):
            self.assertEqual(node.decorator_list, [], (file, node.name))
            self.assertLessEqual(len(node.bases), 1, (file, node.name))
            for inner in node.body:
                self.assertIsInstance(inner, (ast.FunctionDef, ast.Pass), (file, node.name))

    def test_imports(self):
        own = {f"mendedimage.{file.stem}": file for file in FILES}
        drawn = {}
        for file, node in nodes(ast.ImportFrom):
            self.assertIn(node.module, own, file)
            self.assertEqual(node.level, 0, file)
            drawn.setdefault(f"mendedimage.{file.stem}", []).append(node.module)
            defined = ast.parse(own[node.module].read_text()).body
            names = {each.name for each in defined if isinstance(each, (ast.FunctionDef, ast.ClassDef))}
            names |= {target.id for each in defined if isinstance(each, ast.Assign) for target in each.targets}
            for alias in node.names:
                self.assertIn(alias.name, names, file)
                self.assertIsNone(alias.asname, file)
        self.assertNotIn("mendedimage.__init__", drawn)
        while drawn:
            ready = [name for name in drawn if not any(other in drawn for other in drawn[name])]
            self.assertNotEqual(ready, [], drawn)
            for name in ready:
                del drawn[name]

    def test_names(self):
        builtins_of_python = set(dir(__builtins__) if not isinstance(__builtins__, dict) else __builtins__)
        for file, tree in trees():
            names = [node for node in ast.walk(tree) if isinstance(node, ast.Name)]
            bound = {node.id for node in names if isinstance(node.ctx, ast.Store)}
            bound |= {node.arg for node in ast.walk(tree) if isinstance(node, ast.arg)}
            bound |= {node.name for node in tree.body if isinstance(node, (ast.FunctionDef, ast.ClassDef))}
            self.assertEqual(bound & builtins_of_python, set(), file)
            drawn = {alias.name for node in tree.body if isinstance(node, ast.ImportFrom) for alias in node.names}
            self.assertEqual(bound & drawn, set(), file)
            used = {node.id for node in names}
            self.assertEqual(used - bound - drawn - BUILT_IN, set(), file)
            self.assertEqual([name for name in bound if name.startswith("_")], [], file)
            self.assertEqual((used | bound) & NEVER, set(), file)

    def test_methods_and_values(self):
        methods = {}
        values = set()
        for file, node in nodes(ast.ClassDef):
            for inner in node.body:
                if isinstance(inner, ast.FunctionDef):
                    methods[inner.name] = node.name
        for file, node in nodes(ast.Attribute):
            if isinstance(node.ctx, ast.Store):
                values.add(node.attr)
        self.assertEqual(values & set(methods), set())
        pythons = {name for kind in (str, int, list, dict, set, bytes, tuple) for name in dir(kind)}
        self.assertEqual((values - {"count", "index", "title", "copy", "add"}) & pythons, set())
        self.assertEqual({name for name in methods if name.startswith("_")} - set(OWN_METHODS), set())
        self.assertEqual((set(methods) - set(OWN_METHODS)) & (pythons | NEVER), set())
        for file, node in nodes(ast.Attribute):
            self.assertIn(node.attr, METHODS | set(methods) | values, (file, node.lineno))

    def test_handlers_take_errors_of_the_program(self):
        for file, node in nodes(ast.ExceptHandler):
            self.assertIn(node.type.id, ("NoImage", "BadFile", "BadBase", "UnknownName", "NotWanted"), file)


if __name__ == "__main__":
    unittest.main()
