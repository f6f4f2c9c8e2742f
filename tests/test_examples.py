"""Tests that the examples of the document, and those of README.md, give what stands there."""

import doctest
import pathlib
import unittest

README = pathlib.Path(__file__).resolve().parent.parent / "README.md"
DOCUMENT = """
>>> from growthkinds.families import Family
>>> from growthkinds.kinds import check, kind
>>> from growthkinds.links import double_word, links
>>> from growthkinds.noughts import nought_word
>>> from growthkinds.products import product
>>> from growthkinds.sizes import greatest
>>> from growthkinds.texts import family_text
>>> side = Family([((1, 3), (0, 1))])
>>> kind(side), links(side), product(side, (0, 0, 0, 0))
(('power', 1), ((0, 1),), ((1, 12), (0, 1)))
>>> check(side, ('power', 1, ((0, 1, (0,)),), ()))
'power'
>>> two = Family([((0, 1), (0, 0)), ((0, 0), (2, 0))])
>>> kind(two), double_word(two, 0), nought_word(two)
(('factor',), (0, 1), (0, 0))
>>> greatest(two, 4)
(4, (0, 1, 0, 1))
>>> family_text(side)
'13\\n01'
"""


class ExamplesTest(unittest.TestCase):

    def hold(self, text, least):
        """Check that a text has at least so many examples, and that they all give what stands there."""
        # The fences around the examples are no part of what they print.
        lines = ["" if line.startswith("```") else line for line in text.split("\n")]
        test = doctest.DocTestParser().get_doctest("\n".join(lines), {}, "examples", None, 0)
        self.assertGreaterEqual(len(test.examples), least)
        printed = []
        result = doctest.DocTestRunner().run(test, out=printed.append)
        self.assertEqual((result.failed, "".join(printed)), (0, ""))

    def test_the_document(self):
        self.hold(DOCUMENT, 14)

    def test_the_readme(self):
        self.hold(README.read_text(), 30)
