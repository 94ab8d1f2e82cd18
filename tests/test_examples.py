"""The examples of the interface, as they stand there, and those of README.md."""

import doctest
import pathlib
import unittest

from paritycells import errors

HERE = pathlib.Path(__file__).resolve().parent
EXAMPLES = HERE / "examples.txt"
README = HERE.parent / "README.md"


def blocks(text):
    """Return the heading and the lines of each example."""
    found = []
    heading = ""
    for line in text.splitlines():
        if line.startswith("#"):
            heading = line.lstrip("# ")
            found.append((heading, []))
        elif line:
            found[-1][1].append(line)
    return found


def outcome(source, names):
    """Return what the last line of an example does, written as in the interface."""
    try:
        value = eval(source, names)
    except (errors.CellError, errors.MissingError, errors.StateError, errors.LimitError) as error:
        fields = ", ".join(repr(field) for field in vars(error).values())
        return f"raises {error.__class__.__name__}({fields})"
    return repr(value)


class Examples(unittest.TestCase):

    def test_examples_of_the_interface(self):
        every = blocks(EXAMPLES.read_text())
        self.assertEqual(len(every), 106)
        for heading, lines in every:
            with self.subTest(heading):
                *earlier, last, expected = lines
                names = {}
                for line in earlier:
                    self.assertEqual(line[:4], ">>> ")
                    exec(line[4:], names)
                self.assertEqual(outcome(last[4:], names), expected)

    def test_readme(self):
        failed, tried = doctest.testfile(str(README), module_relative=False)
        self.assertGreater(tried, 0)
        self.assertEqual(failed, 0)


if __name__ == "__main__":
    unittest.main()
