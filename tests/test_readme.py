"""What README.md tells of its examples is what the program tells."""

import contextlib
import io
import pathlib
import re
import unittest

README = pathlib.Path(__file__).resolve().parent.parent / "README.md"


class Readme(unittest.TestCase):
    def test_examples(self):
        blocks = re.findall(r"```python\n(.*?)```", README.read_text(), re.S)
        names, told = {}, 0
        for row in self.statements("\n".join(blocks)):
            found = re.fullmatch(r"([a-z][\w.]*\(.*\)) +# (.*)", row)
            if found is None:
                with contextlib.redirect_stdout(io.StringIO()):
                    exec(row, names)
            else:
                told += 1
                answer = repr(eval(found[1], names)).replace("'", '"')
                self.assertTrue(re.match(re.escape(answer) + r"($|[:;])", found[2]), (row, answer))
        self.assertGreater(told, 40)

    def statements(self, text):
        """The statements of the text: a row, with those behind it that do not begin at the left, or go on with it."""
        rows = []
        for row in text.split("\n"):
            if rows and (row.startswith((" ", "]", "except"))):
                rows[-1] += "\n" + row
            elif row:
                rows.append(row)
        return rows


if __name__ == "__main__":
    unittest.main()
