"""The examples of README.md."""

import doctest
import os
import unittest

from tests.run import ROOT


class Readme(unittest.TestCase):
    def test_examples(self):
        with open(os.path.join(ROOT, "README.md"), encoding="utf-8") as file:
            text = file.read().replace("```", "")
        examples = doctest.DocTestParser().get_doctest(text, {}, "README.md", "README.md", 0)
        found = doctest.DocTestRunner().run(examples)
        self.assertEqual(found.failed, 0)
        self.assertGreater(found.attempted, 2)


if __name__ == "__main__":
    unittest.main()
