"""All examples of the document, as they stand there, in examples.txt."""

import importlib
import pathlib
import pkgutil
import unittest

import wonbyturns

TEXT = (pathlib.Path(__file__).resolve().parent / "examples.txt").read_text()


def all_names():
    """Everything that the modules of the package define, by its name."""
    names = {}
    for found in pkgutil.walk_packages(wonbyturns.__path__, "wonbyturns."):
        module = importlib.import_module(found.name)
        for name, value in vars(module).items():
            if not name.startswith("_") and getattr(value, "__module__", found.name) == found.name:
                names[name] = value
    return names


def examples(text):
    """The examples of each heading: (heading, lines with what they return, or None)."""
    for block in text.strip().split("\n\n"):
        heading, *lines = block.split("\n")
        found = []
        for line in lines:
            if line.startswith(">>> "):
                found.append([line[4:], None])
            elif found:
                found[-1][1] = line
        yield heading[2:], found if found else [[line, None] for line in lines]


class Examples(unittest.TestCase):
    def setUp(self):
        self.names = all_names()

    def test_each_example(self):
        headings = {}
        for heading, lines in examples(TEXT):
            for line, wanted in lines:
                with self.subTest(f"{heading}: {line}"):
                    self.run_line(line, wanted)
                    headings[heading] = headings.get(heading, 0) + (wanted is not None)
        self.assertEqual(list(headings)[0], "Examples")
        self.assertTrue(all(many > 0 for heading, many in headings.items() if heading != "Examples"), headings)

    def run_line(self, line, wanted):
        """Run a line, which returns the value that is wanted, or raises the error that is named."""
        if wanted is None:
            exec(line, self.names)
        elif wanted.startswith("raises "):
            with self.assertRaises(self.names[wanted.split(" ")[1]]):
                eval(line, self.names)
        else:
            self.assertEqual(repr(eval(line, self.names)), repr(eval(wanted, self.names)))


if __name__ == "__main__":
    unittest.main()
