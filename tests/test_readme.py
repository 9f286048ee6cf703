"""README.md: what stands behind a call as its answer is what the call tells."""

import ast
import pathlib
import re
import unittest

README = pathlib.Path(__file__).resolve().parent.parent / "README.md"
PACKAGE = README.parent / "heardsince"


def answer_in(comment):
    """The literal with which a comment begins, None if it begins with none."""
    for end in range(len(comment), 0, -1):
        try:
            if comment[end - 1] not in ", ":
                return (ast.literal_eval(comment[:end].strip(" .")),)
        except (SyntaxError, ValueError):
            pass
    return None


class Readme(unittest.TestCase):

    def test_the_examples(self):
        code = "\n".join(re.findall("```python\n(.*?)```", README.read_text(), re.S))
        rows = code.split("\n")
        known = {}
        checked = 0
        for part in ast.parse(code).body:
            source = ast.get_source_segment(code, part)
            if isinstance(part, ast.Expr):
                told = eval(source, known)
                comment = rows[part.end_lineno - 1][part.end_col_offset:].strip().lstrip("# ")
                answer = answer_in(comment)
                if answer is not None:
                    checked += 1
                    self.assertEqual(repr(told), repr(answer[0]), source)
            elif not isinstance(part, ast.Try):
                exec(source, known)
        self.assertGreater(checked, 30)

    def test_all_files_are_named(self):
        text = README.read_text()
        for file in PACKAGE.glob("*.py"):
            if file.stem != "__init__":
                self.assertIn(f"`{file.name}`", text)


if __name__ == "__main__":
    unittest.main()
