"""What README.md shows is what the program answers."""

import pathlib
import re
import unittest

README = pathlib.Path(__file__).parent.parent / "README.md"


class ReadmeTest(unittest.TestCase):
    def test_each_shown_answer(self):
        names, shown = {}, 0
        for block in re.findall(r"```python\n(.*?)```", README.read_text("utf-8"), re.S):
            for line in block.splitlines():
                code, _, told = line.partition("#")
                # Words may follow the answer; they begin with a comma or a semicolon.
                answer = re.split(r"[,;] (?:or|the) ", told.strip())[0]
                if not answer:
                    exec(code, names)
                    continue
                with self.subTest(line=line):
                    self.assertEqual(eval(code, names), eval(answer))
                shown += 1
        self.assertGreater(shown, 10)


if __name__ == "__main__":
    unittest.main()
