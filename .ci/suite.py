"""Run the tests of one folder by unittest, and print the closing line that CI reads.

Usage: python3 .ci/suite.py NAME FOLDER LEAST, with the folder of the tests, and how
many of them have to run at least.
"""

import sys
import unittest


class CountingResult(unittest.TextTestResult):
    """A result that also counts the tests that passed, since a test may fail more than once."""

    passed = 0

    def addSuccess(self, test):
        super().addSuccess(test)
        self.passed += 1


def run_suite(folder):
    """Run the tests, and give their result."""
    suite = unittest.defaultTestLoader.discover(folder)
    return unittest.TextTestRunner(stream=sys.stdout, resultclass=CountingResult).run(suite)


def main(name, folder, least):
    """Run the tests, print the closing line, and give the exit status."""
    result = run_suite(folder)
    failed = len(result.failures) + len(result.errors) + len(result.unexpectedSuccesses)
    print(f"{name}: {result.passed} passed, {failed} failed", flush=True)
    return 0 if result.wasSuccessful() and result.testsRun >= int(least) else 1


if __name__ == "__main__":
    sys.exit(main(*sys.argv[1:]))
