"""What README.md shows is what the program tells."""

import re
import unittest
from pathlib import Path

README = Path(__file__).resolve().parent.parent / "README.md"


class Readme(unittest.TestCase):
    def test_what_is_shown_is_told(self):
        code = re.search(r"```python\n(.*?)```", README.read_text(), re.S).group(1)
        names = {}
        exec(code, names)
        shown = re.findall(r"^(\w+\(.*\)) +# ([^;\n]*)", code, re.M)
        self.assertGreaterEqual(len(shown), 5)
        for call, told in shown:
            self.assertEqual(eval(call, names), eval(told, names), call)


if __name__ == "__main__":
    unittest.main()
