"""README.md tells what the program answers: each example in it is asked again."""

import unittest
from pathlib import Path

TEXT = (Path(__file__).resolve().parent.parent / "README.md").read_text()


class Readme(unittest.TestCase):
    def test_examples(self):
        rows = TEXT.split("```python\n")[1].split("```")[0].splitlines()
        known = {}
        exec("\n".join(row for row in rows if row.startswith("from ")), known)
        examples = [row.split("  #") for row in rows if "  #" in row]
        self.assertGreater(len(examples), 8)
        for asked, due in examples:
            with self.subTest(asked):
                self.assertEqual(repr(eval(asked, known)), due.strip())


if __name__ == "__main__":
    unittest.main()
