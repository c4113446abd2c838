"""The examples of README.md."""

import doctest
import os
import unittest

README = os.path.join(os.path.dirname(os.path.dirname(os.path.abspath(__file__))), "README.md")


class Readme(unittest.TestCase):
    def test_examples(self):
        with open(README, encoding="utf-8") as file:
            text = "".join([line for line in file if not line.startswith("```")])
        test = doctest.DocTestParser().get_doctest(text, {}, "README.md", README, 0)
        self.assertGreater(len(test.examples), 10)
        self.assertEqual(doctest.DocTestRunner(verbose=False).run(test).failed, 0)
