"""The examples of README.md give the answers that stand there."""

import doctest
import pathlib
import re
import unittest

README = pathlib.Path(__file__).resolve().parent.parent / "README.md"


class Readme(unittest.TestCase):
    def test_examples(self):
        blocks = re.findall(r"```\n(>>>.*?)```", README.read_text(), re.DOTALL)
        self.assertTrue(blocks)
        for block in blocks:
            examples = doctest.DocTestParser().get_doctest(block, {}, "README.md", "README.md", 0)
            told = []
            failed = doctest.DocTestRunner(verbose=False).run(examples, out=told.append).failed
            self.assertEqual(failed, 0, "".join(told))


if __name__ == "__main__":
    unittest.main()
