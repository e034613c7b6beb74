"""What the README shows is what the program tells."""

import re
import unittest
from pathlib import Path

README = Path(__file__).resolve().parent.parent / "README.md"


class Readme(unittest.TestCase):

    def test_each_line_tells_what_stands_beside_it(self):
        code = re.search(r"```python\n(.*?)```", README.read_text(), re.S).group(1)
        names = {}
        checked = 0
        for line in code.splitlines():
            asked, sign, told = line.partition("  # ")
            if line and ("import" in line or re.match(r"[\w, ]+ = ", line)):
                exec(line, names)
            elif line:
                self.assertEqual(repr(eval(asked, names)), told, line)
                checked += 1
        self.assertEqual(checked, 43)


if __name__ == "__main__":
    unittest.main()
