"""README.md tells what the program answers: each example in it is asked again."""

import unittest
from pathlib import Path

TEXT = (Path(__file__).resolve().parent.parent / "README.md").read_text()


class Readme(unittest.TestCase):
    def test_examples(self):
        rows = TEXT.split("```python\n")[1].split("```")[0].splitlines()
        known, asked = {}, 0
        for row in rows:
            deed, told, due = row.partition("  #")
            with self.subTest(deed):
                if told:
                    self.assertEqual(repr(eval(deed, known)), due.strip())
                    asked += 1
                else:
                    exec(deed, known)
        self.assertGreater(asked, 50)


if __name__ == "__main__":
    unittest.main()
