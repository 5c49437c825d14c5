"""The examples of README.md."""

import doctest
import pathlib
import unittest

README = pathlib.Path(__file__).resolve().parent.parent / "README.md"


class Examples(unittest.TestCase):

    def test_the_examples_do_what_is_shown(self):
        text = README.read_text(encoding="ascii").replace("```", "")
        example = doctest.DocTestParser().get_doctest(text, {}, "README.md", str(README), 0)
        runner = doctest.DocTestRunner(verbose=False)
        told = []
        runner.run(example, out=told.append)
        self.assertGreater(runner.tries, 5)
        self.assertEqual((runner.failures, "".join(told)), (0, ""))


if __name__ == "__main__":
    unittest.main()
