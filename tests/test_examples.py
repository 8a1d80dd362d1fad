"""The examples of the document hold as they are written there."""

import doctest
import unittest

from tests import examples


class Examples(unittest.TestCase):
    def test_all_examples(self):
        parser = doctest.DocTestParser()
        runner = doctest.DocTestRunner(verbose=False)
        test = parser.get_doctest("".join(examples.STAGES), {}, "examples", "examples.py", 0)
        told = []
        runner.run(test, out=told.append)
        self.assertEqual(runner.failures, 0, "".join(told))
        self.assertGreater(runner.tries, 0)


if __name__ == "__main__":
    unittest.main()
