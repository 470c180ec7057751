"""README.md: it tells all nine calls, and its example answers what it says."""

import contextlib
import io
import pathlib
import unittest

README = pathlib.Path(__file__).resolve().parent.parent / "README.md"
CALLS = ["load", "shown", "prune", "general", "shorten", "short", "order", "least", "totals"]


class Readme(unittest.TestCase):
    def test_all_calls_are_told(self):
        rows = [line.split("|") for line in README.read_text(encoding="utf-8").splitlines() if line.startswith("| ")]
        cells = [[cell.strip() for cell in row[1:-1]] for row in rows]
        told = {row[0]: row[1].split(",")[0] for row in cells if row[0] in CALLS}
        self.assertEqual(told, {name: str(number) for number, name in enumerate(CALLS)})

    def test_all_refusals_are_told(self):
        text = README.read_text(encoding="utf-8")
        for refusal in ["-1", "-2", "-5", "-7"]:
            self.assertIn(refusal, text)

    def test_the_example(self):
        code = README.read_text(encoding="utf-8").split("```python\n")[1].split("```")[0]
        printed = io.StringIO()
        with contextlib.redirect_stdout(printed):
            exec(code, {})
        wanted = [line[2:] for line in code.splitlines() if line.startswith("# ")]
        self.assertEqual(printed.getvalue().splitlines(), wanted)


if __name__ == "__main__":
    unittest.main()
