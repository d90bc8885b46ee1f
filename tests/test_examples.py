"""The examples of the document, as they stand there."""

from doctest import DocTestParser, DocTestRunner
from importlib import import_module
from pathlib import Path
from re import findall
from unittest import TestCase

from tests import helpers

HERE = Path(__file__).parent
DOCUMENT = HERE.parent.parent / "shared" / "DOC.md"
MODULES = """polygons exchanges turning listing rows friezes choices valued roads chains gears measures snakes pairings
shapes lengths tables sums names leads treeforms treerows treenumbers treeorder treechains partings overs partingcounts
swaps""".split()


def sections():
    """The examples, by the name of the module under whose heading they stand."""
    parts = (HERE / "examples.txt").read_text().split("## eightworlds/")[1:]
    return {part.split(".py", 1)[0]: part.split("\n", 1)[1] for part in parts}


class Examples(TestCase):
    def test_examples(self):
        known = sections()
        self.assertEqual(list(known), MODULES)
        names = {name: getattr(helpers, name) for name in ("P", "Q", "H", "Z", "FAN")}
        for module in MODULES:
            loaded = import_module(f"eightworlds.{module}")
            names.update({name: value for name, value in vars(loaded).items() if not name.startswith("_")})
        for module, text in known.items():
            test = DocTestParser().get_doctest(text, dict(names), module, "examples.txt", 0)
            self.assertTrue(test.examples)
            told = []
            DocTestRunner(verbose=False).run(test, out=told.append)
            self.assertEqual("".join(told), "")

    def test_the_readme(self):
        test = DocTestParser().get_doctest((HERE.parent / "README.md").read_text(), {}, "README", "README.md", 0)
        self.assertTrue(test.examples)
        told = []
        DocTestRunner(verbose=False).run(test, out=told.append)
        self.assertEqual("".join(told), "")

    def test_they_stand_in_the_document(self):
        if not DOCUMENT.exists():
            self.skipTest("the document is not beside the project")
        lines = set(DOCUMENT.read_text().splitlines())
        for text in sections().values():
            for line in text.splitlines():
                self.assertTrue(not line or line in lines, line)


class Interface(TestCase):
    def test_all_names_are_there(self):
        """Each name that a heading lists with arguments is defined in its file, with these arguments."""
        if not DOCUMENT.exists():
            self.skipTest("the document is not beside the project")
        document = DOCUMENT.read_text()
        for module in MODULES:
            text = document.split(f"## eightworlds/{module}.py", 1)[1].split("\n## ", 1)[0]
            loaded = import_module(f"eightworlds.{module}")
            told = findall(r"`([a-z_]+)\(([a-z_, ]*)\)`", text)
            self.assertTrue(told)
            for name, arguments in told:
                call = getattr(loaded, name)
                self.assertEqual(call.__module__, f"eightworlds.{module}")
                many = call.__code__.co_argcount
                self.assertEqual(list(call.__code__.co_varnames[:many]), arguments.split(", "))
                self.assertIsNone(call.__defaults__)
