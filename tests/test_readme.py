"""The uses that README.md shows are run as they stand there."""

import doctest
import pathlib
import unittest

README = pathlib.Path(__file__).resolve().parent.parent / "README.md"


def load_tests(loader, tests, pattern):
    tests.addTests(doctest.DocFileSuite(str(README), module_relative=False, encoding="utf-8"))
    return tests


if __name__ == "__main__":
    unittest.main()
