"""What README.md shows is what the program does."""

import contextlib
import io
import pathlib
import re
import unittest

README = pathlib.Path(__file__).resolve().parent.parent / "README.md"


def shown():
    """All code of the README, and what it says is printed."""
    code = "\n".join(re.findall(r"```python\n(.*?)```", README.read_text(), re.DOTALL))
    return code, re.findall(r"^print\(.*\) +# (.*)$", code, re.MULTILINE)


class Readme(unittest.TestCase):
    def test_what_is_printed(self):
        code, told = shown()
        printed = io.StringIO()
        with contextlib.redirect_stdout(printed):
            exec(code, {})
        lines = printed.getvalue().split("\n")
        # The sheet's text, which is printed first, ends with two line feeds.
        self.assertEqual(lines[lines.index("}") + 2:-1], told)
        self.assertGreater(len(told), 20)

    def test_each_module_is_told(self):
        names = [path.stem for path in (README.parent / "wakedenough").glob("*.py") if path.stem != "__init__"]
        for name in names:
            self.assertIn(f"| `wakedenough.{name}` |", README.read_text())


if __name__ == "__main__":
    unittest.main()
