"""What can be seen of the form that the program's code has to have."""

import ast
import builtins
import pathlib
import unittest

PACKAGE = pathlib.Path(__file__).resolve().parent.parent / "parlourday"
FILES = sorted(path for path in PACKAGE.rglob("*.py"))
LIBRARY = {
    "math": {"gcd", "lcm", "isqrt", "comb", "perm", "factorial"},
    "heapq": {"heappush", "heappop", "heapify", "heapreplace", "heappushpop"},
}
BARRED = (ast.GeneratorExp, ast.Global, ast.AsyncFunctionDef, ast.Await, ast.Div, ast.Import)
BARRED_NAMES = {
    "eval", "exec", "getattr", "setattr", "hasattr", "globals", "locals", "vars", "id", "hash", "float", "round",
    "open", "input", "print", "filter", "type", "register", "elements", "law", "mro",
}


def trees():
    for path in FILES:
        text = path.read_text(encoding="utf-8")
        yield path, text, ast.parse(text)


class Form(unittest.TestCase):
    def test_the_folder_holds_python_files_alone(self):
        others = [path for path in PACKAGE.rglob("*") if path.is_file() and path.suffix not in (".py", ".pyc")]
        self.assertEqual(others, [])
        self.assertTrue((PACKAGE / "__init__.py").is_file())

    def test_sizes_and_characters(self):
        for path, text, tree in trees():
            lines = text.split("\n")
            self.assertLessEqual(len(lines), 400, path)
            self.assertLessEqual(max(len(line) for line in lines), 120, path)
            self.assertTrue(all(sign == "\n" or " " <= sign <= "~" for sign in text), path)
            for node in ast.walk(tree):
                if isinstance(node, ast.FunctionDef):
                    self.assertLessEqual(node.end_lineno - node.lineno + 1, 40, (path, node.name))

    def test_imports(self):
        names = {f"parlourday.{path.stem}" for path in FILES}
        for path, _, tree in trees():
            for node in ast.walk(tree):
                if isinstance(node, ast.ImportFrom):
                    self.assertTrue(node.module in names or node.module in LIBRARY, (path, node.lineno))
                    for alias in node.names:
                        self.assertIsNone(alias.asname, (path, node.lineno))
                        if node.module in LIBRARY:
                            self.assertIn(alias.name, LIBRARY[node.module], path)

    def test_what_the_code_does_without(self):
        for path, _, tree in trees():
            for node in ast.walk(tree):
                self.assertNotIsInstance(node, BARRED, (path, getattr(node, "lineno", None)))
                if isinstance(node, (ast.Name, ast.arg)):
                    name = node.id if isinstance(node, ast.Name) else node.arg
                    self.assertNotIn(name, BARRED_NAMES, (path, node.lineno))
                if isinstance(node, ast.Constant):
                    self.assertNotIsInstance(node.value, (float, complex), (path, node.lineno))
                    self.assertFalse(isinstance(node.value, str) and "%" in node.value, (path, node.lineno))

    def test_local_names(self):
        for path, _, tree in trees():
            taken = set(dir(builtins))
            for node in tree.body:
                if isinstance(node, ast.ImportFrom):
                    taken |= {alias.name for alias in node.names}
                if isinstance(node, ast.ClassDef):
                    taken.add(node.name)
            for node in ast.walk(tree):
                if isinstance(node, ast.arg):
                    self.assertNotIn(node.arg, taken, (path, node.lineno))
                if isinstance(node, ast.Name) and isinstance(node.ctx, ast.Store):
                    self.assertNotIn(node.id, taken, (path, node.lineno))
                if isinstance(node, ast.FunctionDef):
                    self.assertNotIn(node.name, dir(builtins), (path, node.lineno))

    def test_calls_of_builtins(self):
        allowed = {
            "len", "range", "enumerate", "zip", "min", "max", "sum", "abs", "sorted", "reversed", "int", "str", "bool",
            "list", "tuple", "dict", "set", "isinstance", "ord", "repr", "any", "all", "divmod", "super", "ValueError",
            "iter", "property",
        }
        for path, _, tree in trees():
            for node in ast.walk(tree):
                if isinstance(node, ast.Name) and isinstance(node.ctx, ast.Load) and hasattr(builtins, node.id):
                    self.assertIn(node.id, allowed, (path, node.lineno))
                # a set is made only to be sorted or counted on the spot
                if isinstance(node, (ast.Set, ast.SetComp)):
                    self.fail((path, node.lineno))

    def test_one_lambda_on_a_line(self):
        for path, _, tree in trees():
            lines = [node.lineno for node in ast.walk(tree) if isinstance(node, ast.Lambda)]
            self.assertEqual(len(lines), len(set(lines)), path)

    def test_stars_and_statements_that_are_not_used(self):
        barred = (
            ast.Starred, ast.Try, ast.With, ast.Match, ast.Yield, ast.YieldFrom, ast.NamedExpr, ast.Nonlocal, ast.Delete,
            ast.AnnAssign, ast.Assert,
        )
        for path, _, tree in trees():
            for node in ast.walk(tree):
                self.assertNotIsInstance(node, barred, (path, getattr(node, "lineno", None)))

    def test_what_a_loop_goes_over_is_not_changed_in_it(self):
        changing = {"append", "extend", "insert", "pop", "remove", "clear", "update", "setdefault", "reverse"}
        for path, _, tree in trees():
            for loop in ast.walk(tree):
                if isinstance(loop, ast.For):
                    names = {node.id for node in ast.walk(loop.iter) if isinstance(node, ast.Name)}
                    for node in [node for part in loop.body for node in ast.walk(part)]:
                        if isinstance(node, ast.Call) and isinstance(node.func, ast.Attribute):
                            if node.func.attr in changing and isinstance(node.func.value, ast.Name):
                                self.assertNotIn(node.func.value.id, names, (path, node.lineno))
                        if isinstance(node, ast.Subscript) and isinstance(node.ctx, ast.Store):
                            if isinstance(node.value, ast.Name):
                                self.assertNotIn(node.value.id, names, (path, node.lineno))

    def test_files_do_not_import_one_another(self):
        imports = {
            path.stem: {
                node.module.split(".")[1] for node in ast.walk(tree)
                if isinstance(node, ast.ImportFrom) and node.module.startswith("parlourday.")
            }
            for path, _, tree in trees()
        }
        while imports:
            free = [name for name, needed in imports.items() if not needed & set(imports)]
            self.assertNotEqual(free, [], imports)
            imports = {name: needed for name, needed in imports.items() if name not in free}

    def test_imports_name_the_file_that_defines(self):
        defined = {
            f"parlourday.{path.stem}": {
                name for node in tree.body for name in (
                    [node.name] if isinstance(node, (ast.FunctionDef, ast.ClassDef))
                    else [target.id for target in node.targets] if isinstance(node, ast.Assign) else []
                )
            }
            for path, _, tree in trees()
        }
        for path, _, tree in trees():
            for node in ast.walk(tree):
                if isinstance(node, ast.ImportFrom) and node.module in defined:
                    for alias in node.names:
                        self.assertIn(alias.name, defined[node.module], (path, node.lineno))
            read = {node.id for node in ast.walk(tree) if isinstance(node, ast.Name)}
            for node in tree.body:
                if isinstance(node, ast.ImportFrom):
                    for alias in node.names:
                        self.assertIn(alias.name, read, path)

    def test_names_that_differ_from_those_further_out(self):
        """A variable of a comprehension within a function or comprehension is not one of those around it."""
        for path, _, tree in trees():
            for node in ast.walk(tree):
                if isinstance(node, (ast.ListComp, ast.DictComp)):
                    outer = targets(node)
                    for inner in ast.walk(node):
                        if inner is not node and isinstance(inner, (ast.ListComp, ast.DictComp)):
                            self.assertFalse(outer & targets(inner), (path, inner.lineno))


def targets(comprehension):
    return {
        name.id for part in comprehension.generators for name in ast.walk(part.target) if isinstance(name, ast.Name)
    } - {"_"}


if __name__ == "__main__":
    unittest.main()
