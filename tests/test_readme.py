"""The rows of README.md that tell an answer behind a # are tried as they stand."""

import pathlib
import re
import unittest

README = pathlib.Path(__file__).resolve().parent.parent / "README.md"


class ReadmeTest(unittest.TestCase):
    def test_rows(self):
        known = {}
        tried = 0
        for block in re.findall(r"```python\n(.*?)```", README.read_text(encoding="utf-8"), re.S):
            for row in block.splitlines():
                code, mark, answer = row.partition("#")
                if mark:
                    with self.subTest(row=row):
                        self.assertRegex(answer.strip(), re.escape(repr(eval(code, known))) + r"(:|\Z)")
                    tried += 1
                else:
                    exec(code, known)
        self.assertGreater(tried, 20)


if __name__ == "__main__":
    unittest.main()
