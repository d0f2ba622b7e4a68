"""README.md shows what the program does."""

import doctest
import os

from tests.helping import Case

README = os.path.join(os.path.dirname(os.path.dirname(__file__)), "README.md")


class Readme(Case):
    def test_its_examples(self):
        told = doctest.testfile(README, module_relative=False)
        self.assertGreater(told.attempted, 0)
        self.assertEqual(told.failed, 0)
