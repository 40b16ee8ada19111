"""What README.md shows is what the program tells."""

import pathlib
import re
import unittest

README = pathlib.Path(__file__).resolve().parent.parent / "README.md"


class ReadmeTest(unittest.TestCase):
    def test_each_example(self):
        told = []
        names = {"tell": lambda one, other: told.append((one, other))}
        for block in re.findall(r"```python\n(.*?)```", README.read_text(), re.S):
            exec(re.sub(r"^( *)(\S.*?)  +# (.*)$", r"\1tell(\2, \3)", block, flags=re.M), names)
        for one, other in told:
            self.assertEqual(one, other)
        self.assertEqual(len(told), README.read_text().count("  # "))


if __name__ == "__main__":
    unittest.main()
