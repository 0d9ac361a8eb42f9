"""The examples in README.md give what it says."""

import doctest
import pathlib
import unittest

README = pathlib.Path(__file__).resolve().parent.parent / "README.md"


class Readme(unittest.TestCase):
    def test_examples(self):
        text = README.read_text().replace("```", "")
        test = doctest.DocTestParser().get_doctest(text, {}, "README.md", None, None)
        self.assertGreater(len(test.examples), 10)
        runner = doctest.DocTestRunner(verbose=False)
        told = []
        runner.run(test, out=told.append)
        self.assertEqual(runner.summarize(verbose=False).failed, 0, "".join(told))
