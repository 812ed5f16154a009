"""The examples of README.md give what is told behind them."""

import pathlib
import re
import unittest

README = pathlib.Path(__file__).resolve().parent.parent / "README.md"


class ReadmeTest(unittest.TestCase):
    def test_examples(self):
        code = re.search(r"```python\n(.*?)```", README.read_text(), re.DOTALL).group(1)
        names, told = {}, 0
        for line in code.splitlines():
            call, mark, worth = line.partition("  # ")
            if mark:
                self.assertEqual(eval(call, names), eval(worth, names), call)
                told += 1
            else:
                exec(line, names)
        self.assertGreater(told, 10)

    def test_all_modules_are_told(self):
        text = README.read_text()
        for path in (README.parent / "processturns").glob("[a-z]*.py"):
            self.assertIn(f"`processturns.{path.stem}`", text)


if __name__ == "__main__":
    unittest.main()
