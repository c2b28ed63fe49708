"""The examples of README.md are so as it tells them."""

import builtins
import doctest
import pathlib
import unittest

README = pathlib.Path(__file__).resolve().parent.parent / "README.md"


class Readme(unittest.TestCase):
    def test_the_examples(self):
        text = README.read_text(encoding="utf-8").replace("```", "")
        found = doctest.DocTestParser().get_doctest(text, {}, "README.md", "README.md", 0)
        told = []
        # What is run as at the prompt leaves its last value among the builtins.
        self.addCleanup(vars(builtins).pop, "_", None)
        runner = doctest.DocTestRunner(verbose=False, optionflags=doctest.IGNORE_EXCEPTION_DETAIL)
        runner.run(found, out=told.append)
        self.assertGreater(len(found.examples), 30)
        self.assertEqual("".join(told), "")


if __name__ == "__main__":
    unittest.main()
