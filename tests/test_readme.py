import ast
import pathlib
import re
import unittest

README = pathlib.Path(__file__).resolve().parent.parent / "README.md"


class Readme(unittest.TestCase):
    def test_the_examples(self):
        """Runs the examples, and compares what a row gives with what its remark shows, where that is a value."""
        names = {"print": lambda *shown: None}
        compared = 0
        for block in re.findall("```python\n(.*?)```", README.read_text("utf-8"), re.DOTALL):
            rows = block.split("\n")
            for node in ast.parse(block).body:
                source = ast.get_source_segment(block, node)
                if not isinstance(node, ast.Expr):
                    exec(source, names)
                    continue
                found = eval(source, names)
                _, _, remark = rows[node.end_lineno - 1].partition("  # ")
                try:
                    want = eval(remark.split(" : ")[0].strip(), names)
                except (SyntaxError, NameError):
                    continue
                self.assertEqual(found, want, source)
                compared += 1
        self.assertGreater(compared, 30)
