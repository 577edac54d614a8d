import pathlib
import re
import unittest

README = pathlib.Path(__file__).resolve().parent.parent / "README.md"


class Readme(unittest.TestCase):
    def test_the_examples(self):
        """Runs the examples, and compares what a line gives with what its remark shows, where that is a value."""
        names = {"print": lambda *shown: None}
        compared = 0
        for block in re.findall("```python\n(.*?)```", README.read_text("utf-8"), re.DOTALL):
            exec(compile(block, "README.md", "exec"), names)
            for line in block.split("\n"):
                code, _, remark = line.partition("  # ")
                shown = remark.split(" : ")[0].strip()
                try:
                    want = eval(shown, names)
                    found = eval(code, names)
                except (SyntaxError, NameError):
                    continue
                self.assertEqual(found, want, line)
                compared += 1
        self.assertGreater(compared, 15)
