"""README.md: what its example tells is what the program tells."""

import ast
import pathlib
import re
import unittest

README = pathlib.Path(__file__).resolve().parent.parent / "README.md"


def told_by(comment):
    """The value that a comment begins with, in a list, or an empty list where it begins with none."""
    for text in (comment, comment.rpartition(": ")[0]):
        try:
            return [ast.literal_eval(text)]
        except (ValueError, SyntaxError):
            continue
    return []


class Example(unittest.TestCase):
    def test_each_line(self):
        code = re.search(r"```python\n(.*?)```", README.read_text(encoding="utf-8"), re.DOTALL).group(1)
        lines, names, looked_at = code.split("\n"), {}, 0
        for node in ast.parse(code).body:
            if not isinstance(node, ast.Expr):
                exec(compile(ast.Module([node], []), "README.md", "exec"), names)
                continue
            value = eval(ast.unparse(node), names)
            for expected in told_by(lines[node.end_lineno - 1].partition("  # ")[2]):
                self.assertEqual(value, expected, lines[node.lineno - 1])
                looked_at += 1
        self.assertGreater(looked_at, 30)


if __name__ == "__main__":
    unittest.main()
