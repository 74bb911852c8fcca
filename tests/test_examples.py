"""The examples of the document's interface, as they stand there (examples.txt)."""

import os
import unittest

from callbells import errors

EXAMPLES = os.path.join(os.path.dirname(os.path.abspath(__file__)), "examples.txt")


def read_examples():
    """The examples: lists of statements, the last expression or statement, what it gives."""
    with open(EXAMPLES, encoding="ascii") as file:
        blocks = file.read().strip("\n").split("\n\n")
    examples = []
    for block in blocks:
        rows = block.split("\n")
        if not all(row.startswith(">>> ") for row in rows[:-1]) or rows[-1].startswith(">>> "):
            raise AssertionError("not an example: " + block)
        examples.append(([row[4:] for row in rows[:-2]], rows[-2][4:], rows[-1]))
    return examples


def told_error(text):
    """The class and the attributes of `raises Name(attribute=value)`."""
    name, _, rest = text[len("raises "):].partition("(")
    return getattr(errors, name), eval("dict(" + (rest or ")"))


class ExamplesTest(unittest.TestCase):
    def test_examples(self):
        examples = read_examples()
        self.assertEqual(len(examples), 69)
        for before, last, expected in examples:
            with self.subTest(last=last, expected=expected):
                self.run_example(before, last, expected)

    def run_example(self, before, last, expected):
        names = {}
        for row in before:
            exec(row, names)
        if not expected.startswith("raises "):
            self.assertEqual(repr(eval(last, names)), expected)
            return
        error, told = told_error(expected)
        with self.assertRaises(error) as caught:
            eval(last, names)
        self.assertIs(caught.exception.__class__, error)
        self.assertEqual(vars(caught.exception), told)


if __name__ == "__main__":
    unittest.main()
