"""Runs all tests of one folder; fails if one fails, or if there is none."""

import sys
import unittest


def main(folder):
    suite = unittest.defaultTestLoader.discover(folder, pattern="test_*.py")
    result = unittest.TextTestRunner(stream=sys.stdout).run(suite)
    failed = len(result.failures) + len(result.errors) + len(result.unexpectedSuccesses)
    skipped = len(result.skipped)
    print(f"{result.testsRun - failed - skipped} passed, {failed} failed, {skipped} skipped")
    return 0 if result.wasSuccessful() and result.testsRun > skipped else 1


if __name__ == "__main__":
    sys.exit(main(sys.argv[1]))
