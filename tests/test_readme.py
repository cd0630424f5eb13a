import doctest
import unittest
from pathlib import Path


class ReadmeTest(unittest.TestCase):

    def test_what_the_readme_shows(self):
        path = Path(__file__).resolve().parent.parent / "README.md"
        failures, tried = doctest.testfile(str(path), module_relative=False, verbose=False)
        self.assertEqual(failures, 0)
        self.assertGreater(tried, 0)
