"""Every example that the interface shows, as written, and those of README.md."""

import doctest
import os
import unittest

HERE = os.path.dirname(os.path.abspath(__file__))


class ExamplesTest(unittest.TestCase):
    def holds(self, path):
        with open(path, encoding="utf-8") as held:
            # A fence right behind an example would be taken for what the example tells.
            text = held.read().replace("```", "")
        examples = doctest.DocTestParser().get_doctest(text, {}, os.path.basename(path), path, 0)
        self.assertNotEqual(examples.examples, [])
        self.assertEqual(doctest.DocTestRunner().run(examples).failed, 0)

    def test_interface(self):
        self.holds(os.path.join(HERE, "examples.txt"))

    def test_readme(self):
        self.holds(os.path.join(os.path.dirname(HERE), "README.md"))
