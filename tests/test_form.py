"""The form that the package's files keep to, as far as a short look at them can tell."""

import ast
import pathlib
import re
import unittest

PACKAGE = pathlib.Path(__file__).resolve().parent.parent / "beatranks"
FILES = sorted(PACKAGE.glob("*.py"))

PYTHONS_OWN = set("""len range enumerate zip min max sum abs sorted reversed int str bool list tuple dict set frozenset
    isinstance ord repr any all divmod""".split())
METHODS = set("""append clear copy count endswith extend find get index insert isalnum isalpha isdigit islower isspace
    isupper items join keys ljust lower lstrip partition pop remove replace reverse rfind rjust rpartition rsplit rstrip
    setdefault split splitlines startswith strip update upper values zfill bit_length""".split())
WORDS_NOT_USED = """type typing typing_extensions enum Enum IntEnum StrEnum Flag IntFlag Generic Protocol ABC ABCMeta
    namedtuple NamedTuple TypedDict TYPE_CHECKING abstractmethod register mro elements open input version_info""".split()
NODES = (
    ast.Module, ast.ImportFrom, ast.alias, ast.FunctionDef, ast.ClassDef, ast.arguments, ast.arg, ast.Assign,
    ast.AugAssign, ast.If, ast.While, ast.For, ast.Return, ast.Break, ast.Continue, ast.Pass, ast.Expr, ast.Call,
    ast.Name, ast.Attribute, ast.Subscript, ast.Slice, ast.Constant, ast.List, ast.Tuple, ast.Dict, ast.BinOp,
    ast.UnaryOp, ast.BoolOp, ast.Compare, ast.IfExp, ast.ListComp, ast.comprehension, ast.keyword, ast.expr_context,
    ast.operator, ast.unaryop, ast.boolop, ast.cmpop,
)


def trees():
    return [(path, ast.parse(path.read_text(encoding="utf-8"))) for path in FILES]


def nodes(kind):
    return [(path.name, node) for path, tree in trees() for node in ast.walk(tree) if isinstance(node, kind)]


class Form(unittest.TestCase):
    def test_only_plain_files_lie_in_the_package(self):
        names = [path.name for path in PACKAGE.iterdir() if path.name != "__pycache__"]
        self.assertIn("__init__.py", names)
        for name in names:
            self.assertRegex(name, r"^[a-z0-9_]+\.py$")

    def test_sizes_and_signs(self):
        for path in FILES:
            text = path.read_text(encoding="utf-8")
            lines = text.splitlines()
            self.assertLessEqual(len(lines), 400, path)
            self.assertLessEqual(max(len(row) for row in lines), 120, path)
            self.assertRegex(text, r"\A[ -~\n]*\Z", path)
            for word in WORDS_NOT_USED:
                self.assertIsNone(re.search(rf"\b{word}\b", text), (path, word))
        for name, node in nodes(ast.FunctionDef):
            self.assertLessEqual(node.end_lineno - node.lineno + 1, 40, (name, node.name))

    def test_only_the_plain_part_of_the_language(self):
        for name, node in nodes(ast.AST):
            self.assertIsInstance(node, NODES, (name, getattr(node, "lineno", None)))
        for name, node in nodes((ast.Div, ast.MatMult, ast.Starred, ast.Set)):
            self.fail((name, node))
        for name, node in nodes(ast.ListComp):
            self.assertEqual(len(node.generators), 1, (name, node.lineno))
            self.assertLessEqual(len(node.generators[0].ifs), 1, (name, node.lineno))
        for name, node in nodes(ast.Constant):
            self.assertIn(type(node.value), (int, str, bool, type(None)), (name, node.lineno))
        for name, node in nodes(ast.Compare):
            for sign, other in zip(node.ops, node.comparators):
                if isinstance(sign, (ast.Is, ast.IsNot)):
                    self.assertIn(repr(getattr(other, "value", "")), ("None", "True", "False"), (name, node.lineno))

    def test_statements(self):
        for name, node in nodes(ast.Assign):
            self.assertEqual(len(node.targets), 1, (name, node.lineno))
        for name, node in nodes((ast.While, ast.For)):
            self.assertEqual(node.orelse, [], (name, node.lineno))
        for name, node in nodes(ast.FunctionDef):
            extra = [node.args.vararg, node.args.kwarg, *node.args.kwonlyargs, *node.args.posonlyargs]
            self.assertEqual([found for found in extra if found], [], (name, node.name))
            self.assertEqual(node.decorator_list, [], (name, node.name))
        for path, tree in trees():
            said = [node for node in ast.walk(tree) if isinstance(node, ast.Expr)]
            self.assertTrue(all(isinstance(node.value, ast.Call) for node in said[1:]), path)

    def test_names(self):
        for path, tree in trees():
            known = set(PYTHONS_OWN)
            bound = set()
            for node in ast.walk(tree):
                if isinstance(node, ast.alias):
                    known.add(node.asname or node.name)
                elif isinstance(node, (ast.FunctionDef, ast.ClassDef)):
                    known.add(node.name)
                elif isinstance(node, ast.arg):
                    bound.add(node.arg)
                elif isinstance(node, ast.Name) and isinstance(node.ctx, ast.Store):
                    bound.add(node.id)
            self.assertEqual(bound & PYTHONS_OWN, set(), path)
            used = {node.id for node in ast.walk(tree) if isinstance(node, ast.Name)}
            self.assertEqual(used - known - bound, set(), path)
            self.assertEqual([name for name in used | bound if name.startswith("_")], [], path)
            imported = {node.asname or node.name for node in ast.walk(tree) if isinstance(node, ast.alias)}
            self.assertEqual(imported & bound, set(), path)
            self.assertEqual(imported - used, set(), path)

    def test_methods_and_values(self):
        own = set()
        values = set()
        for name, node in nodes(ast.ClassDef):
            own.update(part.name for part in node.body)
        for name, node in nodes(ast.Attribute):
            if isinstance(node.ctx, ast.Store):
                values.add(node.attr)
        self.assertEqual(own & values, set())
        for name, node in nodes(ast.Attribute):
            self.assertIn(node.attr, METHODS | own | values, (name, node.lineno))

    def test_imports(self):
        drawn = {}
        for path, tree in trees():
            at_top = [node for node in tree.body if isinstance(node, ast.ImportFrom)]
            self.assertEqual(len(at_top), len([n for n in ast.walk(tree) if isinstance(n, ast.ImportFrom)]), path)
            for node in at_top:
                self.assertRegex(node.module, r"^beatranks\.[a-z]+$", path)
            drawn[f"beatranks.{path.stem}"] = {node.module for node in at_top}
        while drawn:
            free = [name for name, needed in drawn.items() if not needed & set(drawn)]
            self.assertTrue(free, f"these draw from one another: {sorted(drawn)}")
            drawn = {name: needed for name, needed in drawn.items() if name not in free}

    def test_sets_are_not_kept(self):
        made = [node for name, node in nodes(ast.Call) if getattr(node.func, "id", "") == "set"]
        at_once = []
        for name, node in nodes(ast.Call):
            if getattr(node.func, "id", "") in ("sorted", "len"):
                at_once += [part for part in node.args if getattr(getattr(part, "func", None), "id", "") == "set"]
        self.assertEqual(len(made), len(at_once))


if __name__ == "__main__":
    unittest.main()
