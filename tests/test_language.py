"""Rules of the language that a test can see, over all files of the package."""

import ast
import builtins
from pathlib import Path
from unittest import TestCase

# Where Python shows what a line comes to, as doctest has it do, it keeps this as a builtin called _.
BUILTINS = set(dir(builtins)) - {"_"}
PACKAGE = Path(__file__).parent.parent / "eightworlds"
FILES = sorted(PACKAGE.rglob("*.py"))
TREES = {path: ast.parse(path.read_text()) for path in FILES}
ALLOWED = set("""len range enumerate zip min max sum abs sorted reversed int str bool list tuple dict set isinstance ord
repr any all divmod Exception ValueError TypeError KeyError IndexError LookupError ZeroDivisionError NotImplemented iter next
super property staticmethod classmethod""".split())
LIBRARY = {"math": {"gcd", "lcm", "isqrt", "comb", "perm", "factorial"}}
METHODS = set("""append clear copy count endswith extend find get index insert isalnum isalpha isdigit islower isspace
isupper items join keys ljust lower lstrip partition pop remove replace reverse rfind rjust rpartition rsplit rstrip
setdefault split splitlines startswith strip update upper values zfill bit_length isascii isdecimal removeprefix
removesuffix""".split())
MODIFYING = set("append clear extend insert pop remove reverse setdefault update".split())
BARRED = set("""type typing enum Enum Generic Protocol ABC namedtuple dataclass overload register mro elements open input law
eval exec globals locals getattr setattr hasattr delattr vars dir id compile""".split())


def nodes(kind):
    """All nodes of a kind, with the path of their file."""
    return [(path, node) for path, tree in TREES.items() for node in ast.walk(tree) if isinstance(node, kind)]


def imported(tree):
    """All names that a file imports."""
    return [name.name for node in ast.walk(tree) if isinstance(node, ast.ImportFrom) for name in node.names]


class Files(TestCase):
    def test_sizes(self):
        for path in FILES:
            lines = path.read_text().split("\n")
            self.assertLess(len(lines) - 1, 400, path)
            self.assertLess(max(map(len, lines)), 121, path)
        for path, node in nodes(ast.FunctionDef):
            self.assertLess(node.end_lineno - node.lineno + 1, 41, (path, node.name))

    def test_signs(self):
        for path in FILES:
            wrong = [sign for sign in path.read_bytes() if sign != 10 and not 32 <= sign <= 126]
            self.assertEqual(wrong, [], path)
            self.assertTrue(path.read_text().endswith("\n"))
            self.assertFalse([line for line in path.read_text().splitlines() if line != line.rstrip()], path)

    def test_nothing_else_in_the_folder(self):
        others = [path for path in PACKAGE.rglob("*") if path.suffix != ".py" and "__pycache__" not in path.parts]
        self.assertEqual(others, [])

    def test_docstrings(self):
        for path, tree in TREES.items():
            self.assertTrue(ast.get_docstring(tree), path)
        for path, node in nodes((ast.FunctionDef, ast.ClassDef)):
            if node.name != "__init__":
                self.assertTrue(ast.get_docstring(node), (path, node.name))


class Names(TestCase):
    def test_imports(self):
        above = {}
        for path, node in nodes((ast.Import, ast.ImportFrom)):
            self.assertIsInstance(node, ast.ImportFrom, path)
            names = {name.name for name in node.names}
            self.assertTrue(all(name.asname is None for name in node.names))
            if node.module in LIBRARY:
                self.assertTrue(names <= LIBRARY[node.module], path)
                continue
            package, _, module = node.module.partition(".")
            self.assertEqual((package, node.level), ("eightworlds", 0), path)
            defined = TREES[PACKAGE / f"{module}.py"].body
            known = {one.name for one in defined if isinstance(one, (ast.FunctionDef, ast.ClassDef))}
            known |= {one.targets[0].id for one in defined if isinstance(one, ast.Assign)}
            self.assertTrue(names <= known, (path, names - known))
            above.setdefault(path.stem, set()).add(module)
        while above:
            free = [name for name, needed in above.items() if not needed & set(above)]
            self.assertTrue(free, f"a ring of imports: {above}")
            for name in free:
                del above[name]

    def test_all_imports_are_used(self):
        for path, tree in TREES.items():
            used = {node.id for node in ast.walk(tree) if isinstance(node, ast.Name)}
            self.assertEqual([name for name in imported(tree) if name not in used], [], path)

    def test_all_helpers_are_used(self):
        used = [node.id for _, node in nodes(ast.Name)]
        document = (PACKAGE.parent / "README.md").read_text()
        for path, tree in TREES.items():
            for node in tree.body:
                if isinstance(node, ast.FunctionDef) and f"`{node.name}(" not in document:
                    self.assertIn(node.name, used, path)

    def test_nothing_is_named_twice(self):
        for path, tree in TREES.items():
            taken = set(imported(tree)) | BUILTINS
            defined = [one.name for one in tree.body if isinstance(one, (ast.FunctionDef, ast.ClassDef))]
            self.assertEqual(len(defined), len(set(defined)), path)
            self.assertFalse(set(defined) & taken, path)
            taken |= set(defined)
            for node in ast.walk(tree):
                name = node.arg if isinstance(node, ast.arg) else None
                if isinstance(node, ast.Name) and isinstance(node.ctx, ast.Store):
                    name = node.id
                self.assertNotIn(name, taken, path)
                self.assertNotIn(name, BARRED, path)

    def test_builtins(self):
        for path, node in nodes(ast.Name):
            if node.id in BUILTINS:
                self.assertIn(node.id, ALLOWED, path)

    def test_barred_words(self):
        for path, node in nodes(ast.Constant):
            if isinstance(node.value, str):
                self.assertNotIn("%", node.value, path)
        for path, node in nodes((ast.Name, ast.Attribute, ast.FunctionDef, ast.ClassDef)):
            name = node.id if isinstance(node, ast.Name) else node.attr if isinstance(node, ast.Attribute) else node.name
            self.assertNotIn(name, BARRED, path)


class Forms(TestCase):
    def test_no_other_statements(self):
        barred = (
            ast.Global, ast.AsyncFunctionDef, ast.Await, ast.With, ast.Match, ast.GeneratorExp, ast.YieldFrom, ast.Lambda,
            ast.AugAssign, ast.AnnAssign, ast.NamedExpr, ast.Set, ast.Div,
        )
        self.assertEqual([(path.name, node.lineno) for path, node in nodes(barred)], [])
        decorators = [ast.unparse(one) for _, node in nodes(ast.FunctionDef) for one in node.decorator_list]
        self.assertLessEqual(set(decorators), {"property", "classmethod"})
        self.assertEqual([path.name for path, node in nodes(ast.Constant) if isinstance(node.value, (float, bytes))], [])

    def test_no_error_is_caught(self):
        for path, node in nodes(ast.Try):
            self.assertEqual(node.handlers + node.orelse, [], path)
            for one in node.finalbody:
                self.assertIsInstance(one, (ast.If, ast.Assign))
                for test in [inner.test for inner in ast.walk(one) if isinstance(inner, ast.If)]:
                    self.assertRegex(ast.unparse(test), r"^[a-z_.]+ is (not )?None$")

    def test_generators(self):
        makers = [node for _, node in nodes(ast.FunctionDef) if any(isinstance(one, ast.Yield) for one in ast.walk(node))]
        yields = [node.value for _, node in nodes(ast.Expr) if isinstance(node.value, ast.Yield)]
        self.assertEqual(len(yields), len(nodes(ast.Yield)))
        names = [node.name for _, node in nodes(ast.FunctionDef)]
        for node in makers:
            self.assertEqual(names.count(node.name), 1)
            self.assertFalse([one for one in ast.walk(node) if isinstance(one, ast.Return)])

    def test_stars_stand_in_zips(self):
        # Behind a star stands a name, and the zip goes straight into a list.
        lists = [node for _, node in nodes(ast.Call) if isinstance(node.func, ast.Name) and node.func.id == "list"]
        zips = [
            inner for node in lists for inner in node.args
            if isinstance(inner, ast.Call) and isinstance(inner.func, ast.Name) and inner.func.id == "zip"
        ]
        fine = {id(one) for inner in zips for one in inner.args if len(inner.args) == 1}
        for path, node in nodes(ast.Starred):
            self.assertIn(id(node), fine, path)
            self.assertIsInstance(node.value, ast.Name, path)

    def test_powers_are_literal(self):
        for path, node in nodes(ast.BinOp):
            if isinstance(node.op, ast.Pow):
                self.assertIsInstance(node.right, ast.Constant, path)
                self.assertLess(node.right.value, 65, path)

    def test_methods(self):
        own = {
            one.name for _, node in nodes(ast.ClassDef) for one in node.body if isinstance(one, ast.FunctionDef)
        }
        self.assertFalse({name for name in own if not name.startswith("__")} & set(dir(str) + dir(list) + dir(dict) + dir(set)))
        for path, node in nodes(ast.Call):
            if isinstance(node.func, ast.Attribute):
                self.assertIn(node.func.attr, METHODS | own, path)

    def test_is_stands_with_constants(self):
        for path, node in nodes(ast.Compare):
            for operator, other in zip(node.ops, node.comparators):
                if isinstance(operator, (ast.Is, ast.IsNot)):
                    self.assertIsInstance(other, ast.Constant, path)

    def test_sets_stand_where_they_may(self):
        # A set is sorted or counted where it is made, and kept nowhere.
        fine = {
            id(inner) for _, node in nodes(ast.Call)
            if isinstance(node.func, ast.Name) and node.func.id in ("sorted", "len") for inner in node.args
        }
        for path, node in nodes((ast.Call, ast.SetComp)):
            if isinstance(node, ast.SetComp) or (isinstance(node.func, ast.Name) and node.func.id == "set"):
                self.assertIn(id(node), fine, (path, node.lineno))

    def test_module_level(self):
        kinds = (ast.Expr, ast.ImportFrom, ast.FunctionDef, ast.ClassDef, ast.Assign)
        for path, tree in TREES.items():
            for node in tree.body:
                self.assertIsInstance(node, kinds, path)
                if isinstance(node, ast.Assign):
                    self.assertEqual(len(node.targets), 1)
                    self.assertFalse([one for one in ast.walk(node) if isinstance(one, (ast.Call, ast.ListComp))])


def made_here(function):
    """The names of a function that are assigned nothing but lists and dicts that it makes itself."""
    found = {}
    for node in ast.walk(function):
        if isinstance(node, ast.Assign):
            for target in node.targets:
                if isinstance(target, ast.Name):
                    made = isinstance(node.value, (ast.List, ast.Dict, ast.ListComp))
                    made = made or (isinstance(node.value, ast.Call) and ast.unparse(node.value.func) in ("list", "dict", "sorted"))
                    found[target.id] = found.get(target.id, True) and made
    return {name for name, made in found.items() if made}


def changes(function):
    """All lines of a function that change anything but what it makes itself."""
    made = made_here(function)
    found = []
    for node in ast.walk(function):
        if isinstance(node, (ast.Assign, ast.Delete)):
            targets = [one for target in node.targets for one in ast.walk(target)]
            for one in targets:
                if isinstance(one, ast.Attribute) and isinstance(one.ctx, (ast.Store, ast.Del)):
                    found.append(ast.unparse(node))
                if isinstance(one, ast.Subscript) and isinstance(one.ctx, (ast.Store, ast.Del)):
                    if not isinstance(one.value, ast.Name) or one.value.id not in made:
                        found.append(ast.unparse(node))
        if isinstance(node, ast.Call) and isinstance(node.func, ast.Attribute) and node.func.attr in MODIFYING:
            if not isinstance(node.func.value, ast.Name) or node.func.value.id not in made:
                found.append(ast.unparse(node))
    return found


class Operators(TestCase):
    """Operators, properties and the like change nothing, and so do the functions that they call."""

    def called(self, function):
        """The names of all functions and methods that a function calls."""
        calls = [node.func for node in ast.walk(function) if isinstance(node, ast.Call)]
        return {one.id if isinstance(one, ast.Name) else one.attr for one in calls if isinstance(one, (ast.Name, ast.Attribute))}

    def test_nothing_is_changed(self):
        functions = {node.name: node for tree in TREES.values() for node in tree.body if isinstance(node, ast.FunctionDef)}
        methods = [node for _, one in nodes(ast.ClassDef) for node in one.body if isinstance(node, ast.FunctionDef)]
        plain = {node.name: node for node in methods if not node.name.startswith("__") and not node.decorator_list}
        free = ("__init__", "__ixor__", "__iadd__", "__call__")
        waiting = [node for node in methods if node.name.startswith("__") and node.name not in free]
        waiting += [node for node in methods if [ast.unparse(one) for one in node.decorator_list] == ["property"]]
        self.assertGreater(len(waiting), 20)
        seen = set()
        while waiting:
            node = waiting.pop()
            self.assertEqual(changes(node), [], node.name)
            for name in self.called(node) - seen:
                seen.add(name)
                if name in functions or name in plain:
                    waiting.append(functions.get(name) or plain[name])
            parameters = {one.arg for one in node.args.args}
            self.assertFalse(parameters & self.called(node), node.name)
        self.assertIn("tops_from_first", seen)
        self.assertNotIn("add_call", seen)
