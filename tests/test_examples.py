"""The examples of the document, each stage being one session."""

import doctest
import os
import unittest

FOLDER = os.path.join(os.path.dirname(os.path.abspath(__file__)), "examples")


class Examples(unittest.TestCase):

    def test_examples(self):
        names = sorted(os.listdir(FOLDER))
        self.assertEqual(names, sorted([f"stage{number}.txt" for number in range(1, 17)]))
        for name in names + [os.path.join("..", "..", "README.md")]:
            with self.subTest(name):
                failed, tried = doctest.testfile(os.path.join(FOLDER, name), module_relative=False)
                self.assertEqual(failed, 0)
                self.assertGreater(tried, 2)


if __name__ == "__main__":
    unittest.main()
