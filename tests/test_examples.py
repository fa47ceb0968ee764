"""The examples that the document prints, word for word, as they stand in examples.txt."""

import doctest
import unittest
from importlib import import_module
from pathlib import Path

from cornerranks import errors

TEXT = (Path(__file__).resolve().parent / "examples.txt").read_text(encoding="ascii")
MODULES = ("tables", "inverses", "corners", "left", "carriers", "carryings", "shapes", "webs", "fillings",
           "certificates")


def examples():
    """(module, line, what is printed below it, None for nothing)."""
    module = None
    lines = TEXT.splitlines()
    for at, line in enumerate(lines):
        if line.startswith("# "):
            module = line.split("/")[1].removesuffix(".py")
        elif line.startswith(">>> "):
            below = lines[at + 1] if at + 1 < len(lines) else "# "
            yield module, line[4:], None if below.startswith((">>> ", "# ")) else below


class Examples(unittest.TestCase):
    def run_one(self, line, printed, names):
        if printed is None:
            exec(line, names)
        elif printed.startswith("raises "):
            with self.assertRaises(errors.CornerError) as caught:
                eval(line, names)
            self.assertEqual(repr(caught.exception), printed.removeprefix("raises "))
            self.assertIs(type(caught.exception), getattr(errors, printed.removeprefix("raises ").removesuffix("()")))
        else:
            self.assertEqual(repr(eval(line, names)), printed)

    def test_all_of_them_in_their_order(self):
        names = {}
        count = {module: 0 for module in MODULES}
        for module, line, printed in examples():
            with self.subTest(module, line=line):
                self.run_one(line, printed, names)
            count[module] += printed is not None
        self.assertEqual(list(count.values()), [3, 3, 2, 3, 5, 3, 3, 2, 4, 3])

    def test_what_they_import_stands_in_its_file(self):
        for module, line, _ in examples():
            if line.startswith("from "):
                for name in line.split(" import ")[1].split(", "):
                    source = import_module(line.split()[1])
                    self.assertEqual(getattr(source, name).__module__, line.split()[1])


class Readme(unittest.TestCase):
    def test_what_the_readme_shows(self):
        path = Path(__file__).resolve().parent.parent / "README.md"
        told = doctest.testfile(str(path), module_relative=False)
        self.assertEqual(told.failed, 0)
        self.assertGreater(told.attempted, 40)


if __name__ == "__main__":
    unittest.main()
