"""README.md: its examples, and its table of modules."""

import doctest
import unittest
from pathlib import Path

README = Path(__file__).resolve().parent.parent / "README.md"
MODULES = (
    "limits errors numbers facts doubts rows lamps covers sums functions rings zeros endless powers runs circles meeting "
    "hidden makers notebooks shelves console checker certificates"
).split()


class Readme(unittest.TestCase):
    def test_examples(self):
        text = README.read_text(encoding="utf-8")
        # A line of fences would be taken for a part of what is printed ahead of it.
        rows = ["" if row.startswith("```") else row for row in text.split("\n")]
        test = doctest.DocTestParser().get_doctest("\n".join(rows), {}, "README.md", str(README), 0)
        runner = doctest.DocTestRunner(verbose=False)
        seen = []
        runner.run(test, out=seen.append)
        self.assertEqual(runner.failures, 0, "".join(seen))
        self.assertGreater(runner.tries, 30)

    def test_modules(self):
        rows = [row for row in README.read_text(encoding="utf-8").split("\n") if row.startswith("| `restworld.")]
        self.assertEqual([row.split("`")[1] for row in rows], [f"restworld.{name}" for name in MODULES])
