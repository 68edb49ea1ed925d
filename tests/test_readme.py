"""What README.md shows is what the program answers."""

import os
import re
import unittest

README = os.path.join(os.path.dirname(os.path.dirname(os.path.abspath(__file__))), "README.md")


class Examples(unittest.TestCase):
    def test_each_line_with_an_answer(self):
        with open(README, encoding="utf-8") as file:
            blocks = re.findall(r"```python\n(.*?)```", file.read(), re.DOTALL)
        names, compared = {}, 0
        for line in "".join(blocks).splitlines():
            code, mark, shown = line.partition("  # ")
            if mark:
                self.assertEqual(eval(code, names), eval(shown), code)
                compared += 1
            else:
                exec(code, names)
        self.assertEqual(compared, 4)


if __name__ == "__main__":
    unittest.main()
