"""The examples of README.md give what stands there."""

import doctest
import unittest
from pathlib import Path

README = Path(__file__).resolve().parent.parent / "README.md"


class Readme(unittest.TestCase):
    def test_examples(self):
        # The fences end the examples, as blank lines do elsewhere.
        text = README.read_text("utf-8").replace("```", "")
        examples = doctest.DocTestParser().get_doctest(text, {}, "README", str(README), 0)
        self.assertGreater(len(examples.examples), 10)
        report = []
        failed, _ = doctest.DocTestRunner(verbose=False).run(examples, out=report.append)
        self.assertEqual(failed, 0, "".join(report))


if __name__ == "__main__":
    unittest.main()
