"""What README.md shows is what the calls answer."""

import doctest
import unittest
from pathlib import Path

from halfrowsdesk import lanes

README = Path(__file__).resolve().parent.parent / "README.md"


class Readme(unittest.TestCase):
    def test_examples(self):
        names = {name: call for name, call in vars(lanes).items() if callable(call)}
        results = doctest.testfile(str(README), module_relative=False, globs=names)
        self.assertGreater(results.attempted, 0)
        self.assertEqual(results.failed, 0)
