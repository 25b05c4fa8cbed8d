"""The package keeps to the language: those rules of it that can be seen file by file."""

import ast
import builtins
import unittest
from pathlib import Path

PACKAGE = Path(__file__).resolve().parent.parent / "honestrun"
ALLOWED_BUILTINS = set("""
    len range enumerate zip min max sum abs sorted reversed int str bool list tuple dict isinstance ord repr any all divmod
    ValueError KeyError IndexError LookupError ZeroDivisionError
""".split())
METHODS = set("""
    append clear copy count endswith extend find get index insert items join keys pop remove replace reverse setdefault
    split startswith strip update values
""".split())
BARRED = set("""
    register mro elements open input law version_info with_traceback add_note attrgetter breakpoint builtins compile
    copyright credits delattr dir eval exec exit gc globals help id importlib license locals methodcaller os quit super sys
    type vars typing enum dataclass overload contextmanager
""".split())
NOT_USED = (
    ast.Global, ast.AsyncFunctionDef, ast.AsyncFor, ast.AsyncWith, ast.Await, ast.Set, ast.SetComp, ast.Div, ast.MatMult,
    ast.Starred, ast.Lambda, ast.Yield, ast.YieldFrom, ast.GeneratorExp, ast.Import, ast.Nonlocal, ast.With, ast.AnnAssign,
)


def files():
    return sorted(PACKAGE.rglob("*.py"))


def trees():
    return [(path, ast.parse(path.read_text())) for path in files()]


def functions(tree):
    return [node for node in ast.walk(tree) if isinstance(node, ast.FunctionDef)]


def module_names(tree):
    """The classes, functions and values that a file defines."""
    names = [node.name for node in tree.body if isinstance(node, (ast.FunctionDef, ast.ClassDef))]
    return names + [node.targets[0].id for node in tree.body if isinstance(node, ast.Assign)]


def imported_names(tree):
    return [alias.name for node in tree.body if isinstance(node, ast.ImportFrom) for alias in node.names]


def assigned_names(tree):
    names = [node.id for node in ast.walk(tree) if isinstance(node, ast.Name) and isinstance(node.ctx, ast.Store)]
    names += [node.arg for node in ast.walk(tree) if isinstance(node, ast.arg)]
    return names + [node.name for node in ast.walk(tree) if isinstance(node, ast.MatchAs) and node.name]


class Language(unittest.TestCase):
    def test_files(self):
        self.assertTrue((PACKAGE / "__init__.py").exists())
        for path in PACKAGE.rglob("*"):
            if "__pycache__" not in path.parts:
                self.assertEqual(path.suffix, ".py", path)
        for path in files():
            text = path.read_text()
            lines = text.split("\n")
            self.assertLessEqual(len(lines), 400, path)
            for line in lines:
                self.assertLessEqual(len(line), 120, (path, line))
                self.assertTrue(all(" " <= sign <= "~" for sign in line), (path, line))

    def test_module_level(self):
        for path, tree in trees():
            for at, node in enumerate(tree.body):
                docstring = at == 0 and isinstance(node, ast.Expr) and isinstance(node.value, ast.Constant)
                kinds = (ast.ImportFrom, ast.FunctionDef, ast.ClassDef, ast.Assign)
                self.assertTrue(docstring or isinstance(node, kinds), (path, node.lineno))
            names = module_names(tree) + imported_names(tree)
            self.assertEqual(len(names), len(set(names)), path)

    def test_imports_name_the_file_that_defines(self):
        defined = {f"honestrun.{path.stem}": module_names(tree) for path, tree in trees()}
        for path, tree in trees():
            for node in ast.walk(tree):
                if isinstance(node, ast.ImportFrom):
                    self.assertEqual(node.level, 0)
                    for alias in node.names:
                        self.assertIn(alias.name, defined[node.module], path)
                        self.assertIsNone(alias.asname)

    def test_functions_are_small(self):
        for path, tree in trees():
            for node in functions(tree):
                self.assertLessEqual(node.end_lineno - node.lineno + 1, 40, (path, node.name))
                self.assertEqual(node.decorator_list, [])

    def test_what_is_not_used(self):
        for path, tree in trees():
            for node in ast.walk(tree):
                self.assertNotIsInstance(node, NOT_USED, (path, getattr(node, "lineno", 0)))
                if isinstance(node, ast.Constant):
                    self.assertNotIsInstance(node.value, (float, complex))
                    if isinstance(node.value, str):
                        self.assertNotIn("%", node.value)
                if isinstance(node, (ast.Name, ast.arg, ast.Attribute, ast.FunctionDef, ast.ClassDef)):
                    name = next(filter(None, (getattr(node, key, None) for key in ("id", "arg", "attr", "name"))))
                    self.assertNotIn(name, BARRED, (path, node.lineno))
                    self.assertTrue(name == "__init__" or not name.startswith("__"), (path, node.lineno))

    def test_builtins(self):
        for path, tree in trees():
            bound = set(module_names(tree) + imported_names(tree) + assigned_names(tree))
            for name in bound:
                self.assertFalse(hasattr(builtins, name), (path, name))
            for node in ast.walk(tree):
                if isinstance(node, ast.Name) and node.id not in bound:
                    self.assertIn(node.id, ALLOWED_BUILTINS, (path, node.lineno))

    def test_no_name_hides_a_class_or_an_import(self):
        for path, tree in trees():
            classes = {node.name for node in tree.body if isinstance(node, ast.ClassDef)}
            locals_of_all = {name for node in functions(tree) for name in assigned_names(node)}
            self.assertFalse(locals_of_all & (classes | set(imported_names(tree))), path)

    def test_methods_and_attributes(self):
        methods, attributes, values = set(), set(), set()
        for _, tree in trees():
            for node in ast.walk(tree):
                if isinstance(node, ast.ClassDef):
                    methods |= {member.name for member in node.body if isinstance(member, ast.FunctionDef)}
                    values |= {member.targets[0].id for member in node.body if isinstance(member, ast.Assign)}
                if isinstance(node, ast.Attribute) and isinstance(node.ctx, ast.Store):
                    attributes.add(node.attr)
        self.assertFalse(methods & attributes)
        self.assertFalse(values & (methods | attributes))
        for kind in (str, int, list, dict, set, bytes):
            self.assertFalse((methods - METHODS - {"__init__"}) & set(dir(kind)))
            self.assertFalse((attributes | values) & set(dir(kind)))
        for path, tree in trees():
            for node in ast.walk(tree):
                if isinstance(node, ast.Call) and isinstance(node.func, ast.Attribute):
                    self.assertIn(node.func.attr, methods | METHODS, (path, node.lineno))
                elif isinstance(node, ast.Attribute) and isinstance(node.ctx, ast.Load):
                    self.assertIn(node.attr, attributes | values | methods | METHODS, (path, node.lineno))

    def test_the_interface_is_defined_where_it_is_listed(self):
        listed = {
            "errors": ("HonestrunError", "TooManyPossibilities", "NotInBook", "NotSaved"),
            "shields": ("Shield", "taken"), "differences": ("difference",), "refusals": ("why", "judge"),
            "covers": ("covered", "learnt"), "saved": ("mark", "save", "open_saved"),
        }
        for stem, names in listed.items():
            tree = ast.parse((PACKAGE / f"{stem}.py").read_text())
            for name in names:
                self.assertIn(name, module_names(tree))
        tree = ast.parse((PACKAGE / "shields.py").read_text())
        shield = next(node for node in tree.body if isinstance(node, ast.ClassDef) and node.name == "Shield")
        names = [member.name for member in shield.body if isinstance(member, ast.FunctionDef)]
        for name in ("take", "copy", "form"):
            self.assertIn(name, names)


if __name__ == "__main__":
    unittest.main()
