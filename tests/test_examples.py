"""The examples of the document, as they stand there."""

from doctest import DocTestParser, DocTestRunner
from importlib import import_module
from pathlib import Path
from re import findall
from unittest import TestCase

from tests import helpers

HERE = Path(__file__).parent
DOCUMENT = HERE.parent.parent / "shared" / "DOC.md"
MODULES = """polygons exchanges turning listing rows friezes choices valued roads chains gears measures snakes pairings
shapes lengths tables sums names leads treeforms treerows treenumbers treeorder treechains partings overs partingcounts
swaps passes ways shared fewest layers atonce loose loosecounts sieving reaches states tellings worldtexts worldvalues
worldbenches""".split()
# What the interface lists for each class, with the arguments.
CLASSES = {
    "worldvalues": ("Gauged", {
        "__init__": "self cutting lengths", "ones": "cls cutting", "cutting": None, "lengths": None, "__xor__": "self other",
        "__ixor__": "self other", "__lshift__": "self other", "__invert__": "self", "__mul__": "self other",
        "__call__": "self first last", "__getitem__": "self at", "__contains__": "self value", "__len__": "self",
        "__bool__": "self", "__str__": "self", "same": "self other", "__iter__": "self", "__eq__": "self other",
    }),
    "worldbenches": ("Bench", {
        "__init__": "self state", "do": "self step", "__iadd__": "self other", "undo": "self", "redo": "self",
        "attempt": "self action", "lines": "self", "state": None, "cutting": None, "lengths": None, "line": None, "seat": None,
        "counts": None, "crossed": None, "reach": None, "log": None, "__getitem__": "self at", "__contains__": "self value",
        "__len__": "self", "__bool__": "self", "__iter__": "self", "__eq__": "self other",
    }),
}


def sections():
    """The examples, by the name of the module under whose heading they stand."""
    parts = (HERE / "examples.txt").read_text().split("## eightworlds/")[1:]
    return {part.split(".py", 1)[0]: part.split("\n", 1)[1] for part in parts}


class Examples(TestCase):
    def test_examples(self):
        known = sections()
        self.assertEqual(list(known), MODULES)
        names = {name: getattr(helpers, name) for name in ("P", "Q", "H", "Z", "FAN")}
        for module in MODULES:
            loaded = import_module(f"eightworlds.{module}")
            names.update({name: value for name, value in vars(loaded).items() if not name.startswith("_")})
        for module, text in known.items():
            test = DocTestParser().get_doctest(text, dict(names), module, "examples.txt", 0)
            self.assertTrue(test.examples)
            told = []
            DocTestRunner(verbose=False).run(test, out=told.append)
            self.assertEqual("".join(told), "")

    def test_the_readme(self):
        test = DocTestParser().get_doctest((HERE.parent / "README.md").read_text(), {}, "README", "README.md", 0)
        self.assertTrue(test.examples)
        told = []
        DocTestRunner(verbose=False).run(test, out=told.append)
        self.assertEqual("".join(told), "")

    def test_they_stand_in_the_document(self):
        if not DOCUMENT.exists():
            self.skipTest("the document is not beside the project")
        lines = set(DOCUMENT.read_text().splitlines())
        for text in sections().values():
            for line in text.splitlines():
                self.assertTrue(not line or line in lines, line)


class Interface(TestCase):
    def test_all_names_are_there(self):
        """Each name that a heading lists with arguments is defined in its file, with these arguments."""
        if not DOCUMENT.exists():
            self.skipTest("the document is not beside the project")
        document = DOCUMENT.read_text()
        for module in MODULES:
            text = document.split(f"## eightworlds/{module}.py", 1)[1].split("\n## ", 1)[0]
            loaded = import_module(f"eightworlds.{module}")
            told = findall(r"`([a-z_]+)\(([a-z_, ]*)\)`", text)
            if module in CLASSES:
                methods = CLASSES[module][1]
                for name, arguments in told:
                    if name not in ("len", "str"):
                        self.assertEqual(" ".join(["self"] + arguments.split(", ")).strip(), methods[name])
                continue
            self.assertTrue(told)
            for name, arguments in told:
                call = getattr(loaded, name)
                self.assertEqual(call.__module__, f"eightworlds.{module}")
                many = call.__code__.co_argcount
                self.assertEqual(list(call.__code__.co_varnames[:many]), arguments.split(", "))
                self.assertIsNone(call.__defaults__)

    def test_all_methods_are_there(self):
        """Each method, property and operator that the interface lists is defined in the class itself."""
        for module, (name, methods) in CLASSES.items():
            kind = getattr(import_module(f"eightworlds.{module}"), name)
            self.assertEqual((kind.__module__, kind.__bases__), (f"eightworlds.{module}", (object,)))
            for method, arguments in methods.items():
                own = vars(kind)[method]
                if arguments is None:
                    self.assertIsInstance(own, property)
                    self.assertIsNone(own.fset)
                    continue
                call = own.__func__ if isinstance(own, classmethod) else own
                self.assertEqual(isinstance(own, classmethod), arguments.startswith("cls"))
                self.assertEqual(list(call.__code__.co_varnames[:call.__code__.co_argcount]), arguments.split())
                self.assertIsNone(call.__defaults__)

    def test_no_module_is_left_out(self):
        """Each heading of the document has its module, and each module its heading."""
        folder = HERE.parent / "eightworlds"
        self.assertEqual(sorted(path.stem for path in folder.glob("*.py")), sorted(MODULES + ["__init__", "basics", "errors"]))
        if DOCUMENT.exists():
            self.assertEqual(findall(r"\n## eightworlds/([a-z]+)\.py", DOCUMENT.read_text()), MODULES + ["errors"])
