"""Runs the tests of a folder and closes with how many passed: python3 tests/run.py FOLDER"""

import os
import sys
import unittest

ROOT = os.path.dirname(os.path.dirname(os.path.abspath(__file__)))


def main(folder):
    sys.path[0] = ROOT
    suite = unittest.defaultTestLoader.discover(folder, pattern="test_*.py", top_level_dir=folder)
    result = unittest.TextTestRunner(stream=sys.stdout).run(suite)
    bad = {test.id() for test, _ in result.failures + result.errors}
    bad |= {test.id() for test in result.unexpectedSuccesses}
    failed = min(len(bad), result.testsRun)
    print("tests: %d passed, %d failed, %d skipped" % (
        result.testsRun - failed - len(result.skipped), failed, len(result.skipped)))
    return 0 if result.wasSuccessful() and result.testsRun > 0 else 1


if __name__ == "__main__":
    sys.exit(main(os.path.abspath(sys.argv[1])))
