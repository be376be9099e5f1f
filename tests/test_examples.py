"""The examples of the document, in its order, with the values as written there."""

import importlib
import unittest
from pathlib import Path

MODULES = (
    "errors checks papers sums webs bodies joined branches codes renamings leading refusing"
    " check_renamings sameness leastforms check_sameness rounds sorts counting check_sorts places"
    " looks flats check_places pictures ladders wreaths ranks letters check_names turnings twists"
    " reached check_twists mixtures works helpers check_mixtures sayings answers asking check_sayings"
    " chains windows check_chains frames framed shifts check_frames desk_lines shelves desk_deeds desk_asks"
    " desk stories"
).split()
EXAMPLES = Path(__file__).resolve().parent / "examples.txt"


def told_examples():
    """Pairs of what is asked and of the line behind it, None behind an assignment."""
    lines = [line for line in EXAMPLES.read_text().splitlines() if line and line[0] != "#"]
    for at, line in enumerate(lines):
        if line.startswith(">>> "):
            behind = lines[at + 1] if at + 1 < len(lines) else ">>> "
            yield line[4:], None if behind.startswith(">>> ") else behind


class TestExamples(unittest.TestCase):
    def test_examples(self):
        names = {}
        for module in MODULES:
            names.update(vars(importlib.import_module("otherhand." + module)))
        asked = 0
        for line, answer in told_examples():
            with self.subTest(line=line):
                if answer is None:
                    exec(line, names)
                elif answer.startswith("raises "):
                    error = eval(answer[7:], names)
                    with self.assertRaises(type(error)) as caught:
                        eval(line, names)
                    self.assert_alike(caught.exception, error)
                else:
                    self.assertEqual(eval(line, names), eval(answer, names))
                asked += 1
        self.assertEqual(asked, 162)

    def assert_alike(self, error, asked):
        """An error of the same class, with the same fields; some have an error among these."""
        self.assertIs(type(error), type(asked))
        self.assertEqual(list(vars(error)), list(vars(asked)))
        for name, value in vars(asked).items():
            if isinstance(value, Exception):
                self.assert_alike(vars(error)[name], value)
            else:
                self.assertEqual(vars(error)[name], value)


if __name__ == "__main__":
    unittest.main()
