"""Tests of README.md: what its examples show."""

import doctest
import os
import unittest

README = os.path.join(os.path.dirname(os.path.abspath(__file__)), "..", "README.md")


class ReadmeTest(unittest.TestCase):
    def test_the_examples(self):
        with open(README, encoding="utf-8") as file:
            text = file.read().replace("```", "")
        test = doctest.DocTestParser().get_doctest(text, {}, "README.md", README, 0)
        self.assertGreater(len(test.examples), 50)
        report = []
        doctest.DocTestRunner(verbose=False).run(test, out=report.append)
        self.assertEqual(report, [])


if __name__ == "__main__":
    unittest.main()
