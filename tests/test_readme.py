"""The examples of README.md."""

import doctest
import unittest
from pathlib import Path

README = Path(__file__).resolve().parent.parent / "README.md"


class ExamplesTest(unittest.TestCase):
    def test_examples(self):
        text = README.read_text().replace("```\n", "\n")
        example = doctest.DocTestParser().get_doctest(text, {}, "README.md", "README.md", 0)
        result = doctest.DocTestRunner(verbose=False).run(example)
        self.assertGreater(result.attempted, 15)
        self.assertEqual(result.failed, 0)


if __name__ == "__main__":
    unittest.main()
