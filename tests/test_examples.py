"""The examples of the interface, each run by itself."""

import ast
import pathlib
import unittest

EXAMPLES = pathlib.Path(__file__).with_name("examples.md").read_text(encoding="ascii")


def examples():
    """For each example its lines of code and the value that it shows."""
    for block in EXAMPLES.split("```\n")[1::2]:
        lines = block.splitlines()
        yield [line[4:] for line in lines[:-1]], lines[-1]


class Examples(unittest.TestCase):
    def test_examples(self):
        for code, shown in examples():
            with self.subTest(code=code[-1]):
                names = {}
                exec("\n".join(code[:-1]), names)
                # None stands in the document, while Python's own prompt would show nothing.
                self.assertEqual(repr(eval(code[-1], names)), repr(ast.literal_eval(shown)))

    def test_there_are_examples(self):
        self.assertEqual(len(list(examples())), 32)


if __name__ == "__main__":
    unittest.main()
