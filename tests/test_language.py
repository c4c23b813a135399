"""The plain subset of Python that the package is written in, as far as a walk through its files can tell."""

import ast
import builtins
import os
import re
import unittest

FOLDER = os.path.join(os.path.dirname(os.path.dirname(os.path.abspath(__file__))), "kindspreads")

BUILTINS = set(
    "len range enumerate zip min max sum abs sorted reversed int str bool list tuple dict set isinstance ord repr any "
    "all divmod iter next ValueError KeyError NotImplemented".split()
)
IMPORTED = {
    "heapq": {"heappush", "heappop", "heapify", "heapreplace", "heappushpop"},
    "math": {"gcd", "lcm", "isqrt", "comb", "perm", "factorial"},
    "itertools": {"product", "combinations", "permutations", "chain", "accumulate", "pairwise", "islice", "zip_longest"},
    "collections": {"defaultdict"},
}
SPECIAL = {"__init__", "__eq__", "__repr__", "__str__", "__len__", "__enter__", "__exit__", "__call__"}
METHODS = set(
    "append clear copy count endswith extend find get index insert isalnum isalpha isdigit islower isspace isupper "
    "items join keys ljust lower lstrip partition pop remove replace reverse rfind rjust rpartition rsplit rstrip "
    "setdefault split splitlines startswith strip update upper values zfill bit_length isascii".split()
)
BARRED = re.compile(
    r"\b(type|typing|enum|Enum|Generic|Protocol|ABC|namedtuple|NamedTuple|TypedDict|register|mro|elements|open|input"
    r"|law|eval|exec|globals|locals|vars|id|hash|filter|print|round|super)\b"
)
NOWHERE = (ast.Global, ast.AsyncFunctionDef, ast.Await, ast.GeneratorExp, ast.Div, ast.Yield, ast.YieldFrom)


def files():
    return sorted(os.listdir(FOLDER))


def read(name):
    with open(os.path.join(FOLDER, name), encoding="utf-8") as file:
        return file.read()


def trees():
    return [(name, ast.parse(read(name))) for name in files() if name.endswith(".py")]


def walk(kind):
    return [(name, node) for name, tree in trees() for node in ast.walk(tree) if isinstance(node, kind)]


def own_names():
    """Functions, methods and classes of the package."""
    return {node.name for _, node in walk((ast.FunctionDef, ast.ClassDef))}


class LanguageTest(unittest.TestCase):
    def test_files(self):
        for name in files():
            self.assertTrue(re.fullmatch(r"[a-z_]+\.py", name) or name == "__pycache__", name)

    def test_sizes_and_characters(self):
        for name, _ in trees():
            lines = read(name).split("\n")
            self.assertLessEqual(len(lines), 399, name)
            for line in lines:
                self.assertLessEqual(len(line), 120, (name, line))
                self.assertTrue(all(" " <= sign <= "~" for sign in line), (name, line))
        for name, node in walk(ast.FunctionDef):
            self.assertLessEqual(node.end_lineno - node.lineno + 1, 40, (name, node.name))

    def test_module_level(self):
        plain = (ast.ImportFrom, ast.FunctionDef, ast.ClassDef, ast.Assign)
        for name, tree in trees():
            self.assertTrue(ast.get_docstring(tree), name)
            for node in tree.body[1:]:
                self.assertIsInstance(node, plain, (name, node.lineno))
            bound = [node.name for node in tree.body[1:] if isinstance(node, (ast.FunctionDef, ast.ClassDef))]
            for node in tree.body[1:]:
                if isinstance(node, ast.ImportFrom):
                    bound += [alias.name for alias in node.names]
                if isinstance(node, ast.Assign):
                    bound += [target.id for target in node.targets]
                    self.assertFalse([each for each in ast.walk(node.value) if isinstance(each, (ast.Call, ast.List))])
            self.assertEqual(len(bound), len(set(bound)), name)

    def test_imports(self):
        self.assertEqual(walk(ast.Import), [])
        defined = {}
        for name, tree in trees():
            here = [node.name for node in tree.body if isinstance(node, (ast.FunctionDef, ast.ClassDef))]
            here += [target.id for node in tree.body if isinstance(node, ast.Assign) for target in node.targets]
            defined["kindspreads." + name[:-3]] = here
        for name, node in walk(ast.ImportFrom):
            self.assertEqual(node.level, 0)
            for alias in node.names:
                self.assertIsNone(alias.asname)
                self.assertIn(alias.name, IMPORTED.get(node.module) or defined[node.module], (name, alias.name))

    def test_imported_names_are_used(self):
        for name, tree in trees():
            used = {node.id for node in ast.walk(tree) if isinstance(node, ast.Name)}
            for node in ast.walk(tree):
                if isinstance(node, ast.ImportFrom):
                    self.assertEqual([alias.name for alias in node.names if alias.name not in used], [], name)

    def test_no_two_files_import_from_each_other(self):
        ahead = {name[:-3]: set() for name, _ in trees()}
        for name, node in walk(ast.ImportFrom):
            if node.module.startswith("kindspreads."):
                ahead[name[:-3]].add(node.module.split(".")[1])
        while ahead:
            free = [name for name in ahead if not ahead[name] & set(ahead)]
            self.assertTrue(free, ahead)
            ahead = {name: ahead[name] for name in ahead if name not in free}

    def test_statements_and_expressions(self):
        self.assertEqual([(name, node.lineno) for name, node in walk(NOWHERE)], [])
        for name, node in walk(ast.Constant):
            self.assertNotIsInstance(node.value, (float, complex), name)
        for name, node in walk(ast.BinOp):
            if isinstance(node.op, ast.Pow):
                self.assertIsInstance(node.right, ast.Constant, (name, node.lineno))

    def test_tries_catch_own_errors(self):
        own = {node.name for name, tree in trees() if name == "errors.py" for node in tree.body if isinstance(node, ast.ClassDef)}
        for name, node in walk(ast.Try):
            self.assertTrue(node.handlers and not node.finalbody, (name, node.lineno))
            for handler in node.handlers:
                self.assertIn(handler.type.id, own, (name, node.lineno))

    def test_stars_stand_ahead_of_names(self):
        for name, node in walk(ast.Call):
            for argument in node.args:
                if isinstance(argument, ast.Starred):
                    self.assertIsInstance(argument.value, ast.Name, (name, node.lineno))
            self.assertEqual([each for each in node.keywords if each.arg is None], [], (name, node.lineno))

    def test_what_is_iterated_at_once(self):
        at_once = {"list", "tuple", "dict", "sorted", "sum", "any", "all", "enumerate", "zip", "min", "max"}
        lazy = {"zip", "enumerate", "reversed", "range", "combinations", "product", "permutations"}
        for name, tree in trees():
            fit = []
            for node in ast.walk(tree):
                if isinstance(node, (ast.For, ast.comprehension)):
                    fit.append(id(node.iter))
                elif isinstance(node, ast.Call) and isinstance(node.func, ast.Name) and node.func.id in at_once:
                    fit += [id(each) for each in node.args]
                elif isinstance(node, ast.Call) and node.args and isinstance(node.args[0], ast.Call):
                    if getattr(node.args[0].func, "id", None) == "range" and getattr(node.func, "id", None) in lazy:
                        fit.append(id(node.args[0]))
            for node in ast.walk(tree):
                if isinstance(node, ast.Call):
                    views = isinstance(node.func, ast.Attribute) and node.func.attr in ("items", "keys", "values")
                    if views or getattr(node.func, "id", None) in lazy:
                        self.assertIn(id(node), fit, (name, node.lineno))

    def test_names(self):
        for name, node in walk(ast.FunctionDef):
            self.assertEqual(node.decorator_list, [], (name, node.name))
            if node.name.startswith("__"):
                self.assertIn(node.name, SPECIAL, name)
            for argument in node.args.args:
                self.assertNotRegex(argument.arg, BARRED, (name, node.name))
        for name, node in walk(ast.Name):
            self.assertNotRegex(node.id, BARRED, (name, node.lineno))
            self.assertFalse(node.id.startswith("__"), (name, node.lineno))
            if isinstance(node.ctx, ast.Store):
                self.assertNotIn(node.id, dir(builtins), (name, node.lineno))
            if node.id == "_":
                self.assertIsInstance(node.ctx, ast.Store, (name, node.lineno))
        for name, node in walk(ast.Attribute):
            self.assertNotRegex(node.attr, BARRED, (name, node.lineno))

    def test_calls(self):
        own = own_names()
        known = own | BUILTINS | set().union(*IMPORTED.values())
        given = {argument.arg for _, node in walk(ast.FunctionDef) for argument in node.args.args}
        for name, node in walk(ast.Call):
            if isinstance(node.func, ast.Name):
                self.assertIn(node.func.id, known | (given & {"action"}), (name, node.lineno))
            else:
                self.assertIsInstance(node.func, ast.Attribute, (name, node.lineno))
                self.assertIn(node.func.attr, own | METHODS, (name, node.lineno))

    def test_nothing_in_a_function_hides_an_import(self):
        for name, tree in trees():
            taken = {alias.name for node in ast.walk(tree) if isinstance(node, ast.ImportFrom) for alias in node.names}
            taken |= {node.name for node in ast.walk(tree) if isinstance(node, ast.ClassDef)}
            bound = {node.id for node in ast.walk(tree) if isinstance(node, ast.Name) and isinstance(node.ctx, ast.Store)}
            bound |= {node.arg for node in ast.walk(tree) if isinstance(node, ast.arg)}
            self.assertEqual(taken & bound, set(), name)

    def test_sets_are_built_on_the_spot_only(self):
        for name, tree in trees():
            fit = []
            for node in ast.walk(tree):
                if isinstance(node, ast.Call) and isinstance(node.func, ast.Name) and node.func.id in ("sorted", "len"):
                    fit += [id(each) for each in node.args]
            for node in ast.walk(tree):
                is_set_call = isinstance(node, ast.Call) and isinstance(node.func, ast.Name) and node.func.id == "set"
                if is_set_call or isinstance(node, (ast.Set, ast.SetComp)):
                    self.assertIn(id(node), fit, (name, node.lineno))


if __name__ == "__main__":
    unittest.main()
