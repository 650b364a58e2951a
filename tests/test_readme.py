"""What README.md shows is what the program does."""

import ast
import pathlib
import re
import unittest

README = pathlib.Path(__file__).resolve().parent.parent / "README.md"
SHOWN = re.compile(r"\A(\S.*?) +# (.*)\Z")


class TestReadme(unittest.TestCase):
    def test_examples(self):
        known, looked_at = {}, 0
        for code in re.findall("```python\n(.*?)```", README.read_text(), re.S):
            for line in code.splitlines():
                found = SHOWN.match(line)
                wanted = found and re.match(r"(\[.*\]|\(.*\)|-?[0-9]+|\".*?\"|True|False)(:.*)?\Z", found[2])
                if wanted:
                    self.assertEqual(eval(found[1], known), ast.literal_eval(wanted[1]), line)
                    looked_at += 1
                else:
                    exec(line, known)
        self.assertGreaterEqual(looked_at, 25)


if __name__ == "__main__":
    unittest.main()
