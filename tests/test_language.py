"""The form of the package's files, as far as a program can see it."""

import ast
import pathlib
import unittest

PACKAGE = pathlib.Path(__file__).resolve().parent.parent / "stretchcache"

BUILTINS = set("""len range enumerate zip min max sum abs sorted reversed int str bool list tuple dict set frozenset
isinstance ord repr any all divmod Exception ValueError TypeError KeyError IndexError LookupError ZeroDivisionError
ArithmeticError OverflowError RuntimeError NotImplementedError AttributeError StopIteration""".split())

OWN_METHODS_OF_VALUES = set("""append clear copy count endswith extend find get index insert isalnum isalpha isdigit
islower isspace isupper items join keys ljust lower lstrip partition pop remove replace reverse rfind rjust rpartition
rsplit rstrip setdefault split splitlines startswith strip update upper values zfill bit_length""".split())

NEVER_NAMES = set("""register mro elements open input version_info with_traceback add_note attrgetter breakpoint
builtins compile copyright credits delattr dir eval exec exit gc getattr globals hasattr help id importlib license
locals methodcaller os quit setattr super type vars sys hash next map filter iter print bytes object float""".split())

ALLOWED = (
    ast.Module, ast.Import, ast.ImportFrom, ast.alias, ast.FunctionDef, ast.arguments, ast.arg, ast.ClassDef,
    ast.Assign, ast.AugAssign, ast.If, ast.While, ast.For, ast.Return, ast.Break, ast.Continue, ast.Pass, ast.Raise,
    ast.Try, ast.ExceptHandler, ast.Expr, ast.Constant, ast.Name, ast.List, ast.Tuple, ast.Dict, ast.Set, ast.BinOp,
    ast.UnaryOp, ast.BoolOp, ast.Compare, ast.IfExp, ast.Call, ast.keyword, ast.Attribute, ast.Subscript, ast.Slice,
    ast.ListComp, ast.comprehension, ast.JoinedStr, ast.FormattedValue, ast.Lambda, ast.expr_context, ast.operator,
    ast.unaryop, ast.boolop, ast.cmpop,
)

FORBIDDEN = (ast.Div, ast.MatMult)


def files():
    return sorted(PACKAGE.glob("*.py"))


def trees():
    return [(path, ast.parse(path.read_text())) for path in files()]


def nodes(kind):
    return [(path, node) for path, tree in trees() for node in ast.walk(tree) if isinstance(node, kind)]


def first_line(node):
    return getattr(node, "lineno", 0)


class Language(unittest.TestCase):
    def refuse(self, rule, path, node):
        self.fail(f"{rule}: {path.name}, line {first_line(node)}")

    def test_files_and_signs(self):
        inside = [path for path in PACKAGE.iterdir() if path.name != "__pycache__"]
        self.assertEqual(sorted(inside), files())
        for path in files():
            text = path.read_text()
            self.assertTrue(all(" " <= sign <= "~" or sign == "\n" for sign in text), f"L14: {path.name}")
            self.assertLessEqual(len(text.splitlines()), 399, f"L10: {path.name}")
            self.assertLessEqual(max(len(line) for line in text.splitlines()), 120, f"L10: {path.name}")

    def test_what_stands_in_the_language(self):
        for path, node in nodes(ast.AST):
            if not isinstance(node, ALLOWED) or isinstance(node, FORBIDDEN):
                self.refuse("L6, L7", path, node)

    def test_imports(self):
        for path, node in nodes((ast.Import, ast.ImportFrom)):
            if isinstance(node, ast.Import) or node.level or not node.module.startswith("stretchcache."):
                self.refuse("L2, L16", path, node)
            names = [alias.name for alias in node.names]
            source = ast.parse((PACKAGE / (node.module.split(".")[1] + ".py")).read_text())
            defined = [target.id for row in source.body if isinstance(row, ast.Assign) for target in row.targets]
            defined += [row.name for row in source.body if isinstance(row, (ast.FunctionDef, ast.ClassDef))]
            if not set(names) <= set(defined) or any(alias.asname for alias in node.names):
                self.refuse("L16", path, node)

    def test_top_of_a_module(self):
        for path, tree in trees():
            self.assertTrue(ast.get_docstring(tree), f"L3: {path.name}")
            bound = []
            for row in tree.body[1:]:
                if isinstance(row, ast.Assign):
                    bound += [target.id for target in row.targets]
                elif isinstance(row, (ast.FunctionDef, ast.ClassDef)):
                    bound.append(row.name)
                elif not isinstance(row, ast.ImportFrom):
                    self.refuse("L3", path, row)
            self.assertEqual(len(bound), len(set(bound)), f"L15: {path.name}")

    def test_functions(self):
        for path, node in nodes(ast.FunctionDef):
            taken = node.args
            if taken.vararg or taken.kwarg or taken.kwonlyargs or taken.posonlyargs or node.decorator_list:
                self.refuse("L4", path, node)
            if node.end_lineno - node.lineno + 1 > 40:
                self.refuse("L10", path, node)

    def test_classes(self):
        methods = set()
        values = set()
        for path, node in nodes(ast.ClassDef):
            if node.decorator_list or node.keywords or len(node.bases) > 1:
                self.refuse("L5", path, node)
            for row in node.body:
                if isinstance(row, ast.FunctionDef):
                    methods.add(row.name)
                elif not isinstance(row, ast.Expr):
                    self.refuse("L5", path, row)
        for path, node in nodes(ast.Attribute):
            if isinstance(node.ctx, ast.Store):
                values.add(node.attr)
        self.assertEqual(methods & values, set(), "L18")
        own = set(dir(list)) | set(dir(dict)) | set(dir(str)) | set(dir(int)) | set(dir(set)) | set(dir(bytes))
        self.assertEqual((methods | values) & own - {"__init__"}, set(), "L26")

    def test_names(self):
        for path, tree in trees():
            own = {node.name for node in ast.walk(tree) if isinstance(node, (ast.FunctionDef, ast.ClassDef))}
            own |= {alias.name for node in ast.walk(tree) if isinstance(node, ast.ImportFrom) for alias in node.names}
            own |= {node.arg for node in ast.walk(tree) if isinstance(node, ast.arg)}
            own |= {node.id for node in ast.walk(tree) if isinstance(node, ast.Name) and isinstance(node.ctx, ast.Store)}
            for name in own - {"__init__"}:
                self.assertFalse(name.startswith("_"), f"L12: {path.name}, {name}")
                self.assertNotIn(name, BUILTINS | NEVER_NAMES, f"L8, L15, L17: {path.name}, {name}")
            for node in ast.walk(tree):
                if isinstance(node, ast.Name) and node.id not in own | BUILTINS:
                    self.refuse("L8", path, node)

    def test_locals_are_not_called_like_what_stands_at_the_top(self):
        for path, tree in trees():
            top = {row.name for row in tree.body if isinstance(row, (ast.FunctionDef, ast.ClassDef))}
            top |= {alias.name for row in tree.body if isinstance(row, ast.ImportFrom) for alias in row.names}
            for function in [node for node in ast.walk(tree) if isinstance(node, ast.FunctionDef)]:
                for node in ast.walk(function):
                    name = getattr(node, "arg", None) or getattr(node, "id", None)
                    stored = isinstance(node, ast.arg) or isinstance(getattr(node, "ctx", None), ast.Store)
                    if name in top and stored:
                        self.refuse("L15", path, node)

    def test_methods_called(self):
        own = {node.name for path, node in nodes(ast.FunctionDef)}
        for path, node in nodes(ast.Call):
            if isinstance(node.func, ast.Attribute) and node.func.attr not in own | OWN_METHODS_OF_VALUES:
                self.refuse("L25", path, node)

    def test_lazy_values_are_walked_at_once(self):
        lazy = ("zip", "enumerate", "reversed", "range", "items", "keys", "values")
        walked = ("list", "tuple", "dict", "sorted", "sum", "any", "all", "enumerate", "zip", "min", "max")
        for path, tree in trees():
            fine = []
            for node in ast.walk(tree):
                if isinstance(node, (ast.For, ast.comprehension)):
                    fine.append(node.iter)
                if isinstance(node, ast.Call) and getattr(node.func, "id", "") in walked:
                    fine += node.args[:1]
            for node in ast.walk(tree):
                if isinstance(node, ast.Call) and node not in fine:
                    name = getattr(node.func, "id", None) or getattr(node.func, "attr", None)
                    if name in lazy:
                        self.refuse("L23", path, node)

    def test_one_target_one_for(self):
        for path, node in nodes(ast.Assign):
            if len(node.targets) != 1:
                self.refuse("L6", path, node)
        for path, node in nodes(ast.ListComp):
            if len(node.generators) != 1 or len(node.generators[0].ifs) > 1:
                self.refuse("L7", path, node)
        for path, node in nodes((ast.For, ast.While, ast.Try)):
            if getattr(node, "finalbody", []) or node.orelse and not isinstance(node, ast.Try):
                self.refuse("L6", path, node)

    def test_is_stands_beside_plain_names(self):
        for path, node in nodes(ast.Compare):
            for sign, right in zip(node.ops, node.comparators):
                if isinstance(sign, (ast.Is, ast.IsNot)) and getattr(right, "value", 0) not in (None, True, False):
                    self.refuse("L20", path, node)


if __name__ == "__main__":
    unittest.main()
