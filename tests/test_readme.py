"""Tests that the examples of README.md give what stands there."""

import doctest
import pathlib
import unittest

README = pathlib.Path(__file__).resolve().parent.parent / "README.md"


class ReadmeTest(unittest.TestCase):

    def test_the_examples(self):
        text = README.read_text()
        # The fences around the examples are no part of what they print.
        lines = ["" if line.startswith("```") else line for line in text.split("\n")]
        test = doctest.DocTestParser().get_doctest("\n".join(lines), {}, "README.md", str(README), 0)
        self.assertGreater(len(test.examples), 10)
        printed = []
        result = doctest.DocTestRunner().run(test, out=printed.append)
        self.assertEqual((result.failed, "".join(printed)), (0, ""))
