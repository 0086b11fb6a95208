import doctest
import pathlib
import unittest

README = pathlib.Path(__file__).resolve().parent.parent / "README.md"


class Readme(unittest.TestCase):
    def test_the_examples(self):
        lines = README.read_text(encoding="ascii").split("\n")
        text = "\n".join("" if line == "```" else line for line in lines)
        test = doctest.DocTestParser().get_doctest(text, {}, "README.md", None, 0)
        failed, tried = doctest.DocTestRunner(optionflags=doctest.IGNORE_EXCEPTION_DETAIL).run(test)
        self.assertGreater(tried, 30)
        self.assertEqual(failed, 0)


if __name__ == "__main__":
    unittest.main()
