"""What README.md shows is what the program tells."""

import contextlib
import io
import re
import unittest
from pathlib import Path
from textwrap import indent

README = Path(__file__).resolve().parent.parent / "README.md"


class Readme(unittest.TestCase):
    def test_what_is_shown_is_told(self):
        text = README.read_text()
        code = "\n".join(re.findall(r"```python\n(.*?)```", text, re.S))
        names = {}
        printed = io.StringIO()
        with contextlib.redirect_stdout(printed):
            exec(code, names)
        self.assertIn(indent(printed.getvalue(), "    "), text)
        shown = re.findall(r"^(\S.*\S) {2,}# ([^;\n]*)", code, re.M)
        self.assertGreaterEqual(len(shown), 12)
        for call, told in shown:
            self.assertEqual(eval(call, names), eval(told, names), call)


if __name__ == "__main__":
    unittest.main()
