import doctest
import pathlib
import re
import unittest

README = pathlib.Path(__file__).resolve().parent.parent / "README.md"


class ReadmeTest(unittest.TestCase):
    def test_the_examples_are_true(self):
        blocks = re.findall(r"```\n(>>> .*?)```", README.read_text(), re.DOTALL)
        self.assertTrue(blocks)
        example = doctest.DocTestParser().get_doctest("\n".join(blocks), {}, "README.md", None, 0)
        self.assertEqual(doctest.DocTestRunner(verbose=False).run(example).failed, 0)


if __name__ == "__main__":
    unittest.main()
