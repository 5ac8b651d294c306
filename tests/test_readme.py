"""The examples of README.md do what stands behind them."""

import ast
import contextlib
import io
import pathlib
import re
import unittest

README = pathlib.Path(__file__).resolve().parent.parent / "README.md"


class ReadmeTest(unittest.TestCase):
    def test_examples(self):
        blocks = re.findall(r"```python\n(.*?)```", README.read_text(encoding="ascii"), re.S)
        self.assertGreater(len(blocks), 5)
        names = {}
        for block in blocks:
            self.check_block(block, names)

    def check_block(self, block, names):
        """Runs the statements of a block; a comment behind one is the value, or what is printed."""
        lines = block.split("\n")
        statements = ast.parse(block).body
        for at, node in enumerate(statements):
            end = statements[at + 1].lineno - 1 if at + 1 < len(statements) else len(lines)
            behind = "\n".join([lines[node.end_lineno - 1][node.end_col_offset:], *lines[node.end_lineno:end]])
            comment = [part.strip() for part in re.findall(r"# ?(.*)", behind)]
            code = ast.unparse(node)
            value = None
            printed = io.StringIO()
            with contextlib.redirect_stdout(printed):
                if isinstance(node, ast.Expr):
                    value = eval(code, names)
                else:
                    exec(code, names)
            if isinstance(node, ast.Assign):
                value = names[node.targets[0].id]
            if comment and "print(" in code:
                if not isinstance(node, ast.Try):
                    self.assertEqual(printed.getvalue().split("\n")[:-1], comment, code)
            elif comment:
                self.assertEqual(value, eval("(" + "\n".join(comment) + "\n)", {}), code)
