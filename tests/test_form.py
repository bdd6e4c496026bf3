"""Holds the package's files to the rules of form that can be read off them."""
import ast
import builtins
import pathlib
import re
import unittest

PACKAGE = pathlib.Path(__file__).resolve().parent.parent / "wheeldrawn"

PARTS = """Module Expr Constant Assign Name Load Store Tuple List Dict UnaryOp USub Not BinOp Add Sub Mult FloorDiv Mod
Compare Eq NotEq Lt LtE Gt GtE In NotIn Is IsNot BoolOp And Or IfExp If While For Return Break Continue Pass AugAssign
FunctionDef ClassDef arguments arg Attribute Subscript Slice Call keyword ListComp comprehension ImportFrom alias""".split()

OWN_NAMES = """len range enumerate zip min max sum abs sorted reversed int str bool list tuple dict set isinstance any
all divmod""".split()

METHODS = "append clear copy count extend get index insert items keys pop remove reverse setdefault update values".split()

WORDS_LEFT_OUT = """type typing typing_extensions enum Enum IntEnum StrEnum Flag IntFlag Generic Protocol ABC ABCMeta
namedtuple NamedTuple TypedDict TYPE_CHECKING abstractmethod""".split()


def files():
    return sorted(path for path in PACKAGE.rglob("*") if "__pycache__" not in path.parts and path.is_file())


def parts_of(path, *kinds):
    return [part for part in ast.walk(ast.parse(path.read_text())) if isinstance(part, kinds or ast.AST)]


class Form(unittest.TestCase):
    def test_files(self):
        names = [path.name for path in files()]
        self.assertIn("__init__.py", names)
        self.assertIn("ring.py", names)
        for name in names:
            self.assertRegex(name, r"^[a-z0-9_]+\.py$")

    def test_signs_words_and_size(self):
        for path in files():
            text = path.read_text(encoding="utf-8")
            self.assertRegex(text, r"\A[ -~\n]*\Z")
            self.assertLessEqual(len(text.splitlines()), 400)
            self.assertLessEqual(max(len(line) for line in text.splitlines()), 120)
            self.assertEqual([word for word in WORDS_LEFT_OUT if re.search(r"\b%s\b" % word, text)], [])

    def test_parts_of_the_language(self):
        for path in files():
            for part in parts_of(path):
                self.assertIn(part.__class__.__name__, PARTS, (path.name, getattr(part, "lineno", 0)))

    def test_defs(self):
        for path in files():
            for part in parts_of(path, ast.FunctionDef):
                self.assertLessEqual(part.end_lineno - part.lineno + 1, 40, part.name)
                self.assertEqual(part.decorator_list, [])
                self.assertIsNone(part.args.vararg or part.args.kwarg)

    def test_imports_are_the_packages_own(self):
        for path in files():
            for part in parts_of(path, ast.ImportFrom):
                self.assertEqual(part.level, 0)
                self.assertEqual(part.module.split(".")[0], "wheeldrawn")

    def test_names(self):
        for path in files():
            bound = [part.name for part in parts_of(path, ast.FunctionDef, ast.ClassDef, ast.alias)]
            bound += [part.arg for part in parts_of(path, ast.arg)]
            bound += [part.id for part in parts_of(path, ast.Name) if isinstance(part.ctx, ast.Store)]
            for name in bound:
                self.assertRegex(name, r"^([A-Za-z]\w*|__init__)$")
                self.assertNotIn(name, dir(builtins))
            for part in parts_of(path, ast.Name):
                self.assertIn(part.id, bound + OWN_NAMES)

    def test_sets_are_sorted_or_counted_at_once(self):
        for path in files():
            sets = [part for part in parts_of(path, ast.Call) if ast.unparse(part.func) == "set"]
            within = [inner for part in parts_of(path, ast.Call) if ast.unparse(part.func) in ("sorted", "len")
                      for inner in part.args if isinstance(inner, ast.Call) and ast.unparse(inner.func) == "set"]
            self.assertEqual(len(sets), len(within), path.name)

    def test_each_name_is_bound_once_at_the_top(self):
        for path in files():
            top = []
            for part in ast.parse(path.read_text()).body:
                if isinstance(part, (ast.FunctionDef, ast.ClassDef)):
                    top.append(part.name)
                if isinstance(part, ast.Assign):
                    top.append(part.targets[0].id)
            self.assertEqual(sorted(top), sorted(set(top)))
            inside = [part.arg for part in parts_of(path, ast.arg)]
            inside += [part.id for define in parts_of(path, ast.FunctionDef) for part in ast.walk(define)
                       if isinstance(part, ast.Name) and isinstance(part.ctx, ast.Store)]
            self.assertEqual(sorted(set(inside) & set(top)), [])

    def test_one_target_in_an_assignment(self):
        for path in files():
            for part in parts_of(path, ast.Assign):
                self.assertEqual(len(part.targets), 1)
                self.assertIsInstance(part.targets[0], (ast.Name, ast.Attribute, ast.Subscript))

    def test_methods(self):
        for path in files():
            for part in parts_of(path, ast.Call):
                if isinstance(part.func, ast.Attribute):
                    self.assertIn(part.func.attr, METHODS)


if __name__ == "__main__":
    unittest.main()
