"""The examples of README.md."""

import doctest
import unittest
from pathlib import Path

README = Path(__file__).resolve().parent.parent / "README.md"


class ReadmeTest(unittest.TestCase):
    def test_the_examples(self):
        # The closing fence of an example is not a part of what it prints.
        text = README.read_text(encoding="utf-8").replace("```", "")
        found = doctest.DocTestParser().get_doctest(text, {}, "README.md", str(README), 0)
        self.assertTrue(found.examples)
        self.assertEqual(doctest.DocTestRunner(verbose=False).run(found).failed, 0)


if __name__ == "__main__":
    unittest.main()
