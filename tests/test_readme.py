"""The examples of README.md."""

import unittest
from doctest import DocTestParser, DocTestRunner
from pathlib import Path

README = Path(__file__).resolve().parent.parent / "README.md"


class ReadmeTest(unittest.TestCase):
    def test_examples(self):
        blocks = README.read_text("utf-8").split("```")[1::2]
        parser = DocTestParser()
        runner = DocTestRunner()
        for number, block in enumerate(blocks):
            runner.run(parser.get_doctest(block, {}, f"block {number}", "README.md", 0))
        results = runner.summarize(verbose=False)
        self.assertGreater(results.attempted, 0)
        self.assertEqual(results.failed, 0)


if __name__ == "__main__":
    unittest.main()
