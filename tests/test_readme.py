"""Tests that README.md's example answers as it says."""

import pathlib
import re
import unittest

README = pathlib.Path(__file__).resolve().parent.parent / "README.md"


class TheExample(unittest.TestCase):
    def test_each_line_answers_as_it_says(self):
        example = re.search(r"```python\n(.*?)```", README.read_text(encoding="utf-8"), re.DOTALL).group(1)
        names = {}
        compared = 0
        for line in example.splitlines():
            call, mark, answer = line.partition("# [")
            if mark:
                self.assertEqual(eval(call, names), eval("[" + answer), line)
                compared += 1
            else:
                exec(line, names)
        self.assertGreater(compared, 0)


if __name__ == "__main__":
    unittest.main()
