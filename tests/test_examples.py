"""The examples of the document's interface, as they stand there: examples.txt has them, a blank line between blocks."""

import ast
import pathlib
import unittest

from evenpatch.errors import PactError

FILE = pathlib.Path(__file__).with_name("examples.txt")


def blocks():
    return [block.splitlines() for block in FILE.read_text().split("\n\n") if block.strip()]


def asked_and_shown(lines):
    """The tuples (code, lines that it shows) of a block."""
    found = []
    for line in lines:
        if line.startswith(">>> "):
            found.append((line[4:], []))
        else:
            found[-1][1].append(line)
    return found


class Examples(unittest.TestCase):
    def test_there_are_blocks(self):
        self.assertGreaterEqual(len(blocks()), 12)

    def test_each_block(self):
        for number, lines in enumerate(blocks()):
            names = {}
            for code, shown in asked_and_shown(lines):
                with self.subTest(block=number, code=code):
                    self.run_one(code, shown, names)

    def run_one(self, code, shown, names):
        if shown and shown[0].startswith("raises "):
            with self.assertRaises(PactError) as caught:
                exec(code, names)
            self.check_error(caught.exception, shown[0][len("raises "):])
            return
        if not shown:
            exec(code, names)
            return
        self.assertEqual(repr(eval(code, names)), "\n".join(shown))

    def check_error(self, error, text):
        call = ast.parse(text, mode="eval").body
        if isinstance(call, ast.Name):
            self.assertEqual(type(error).__name__, call.id)
            return
        self.assertEqual(type(error).__name__, call.func.id)
        told = [ast.literal_eval(item) for item in call.args]
        self.assertEqual(list(vars(error).values())[:len(told)], told)
        for word in call.keywords:
            self.assertEqual(getattr(error, word.arg), ast.literal_eval(word.value))


if __name__ == "__main__":
    unittest.main()
