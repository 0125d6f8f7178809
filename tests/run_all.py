"""Runs every test of one folder: python3 tests/run_all.py FOLDER

Ends with the line "N passed, N failed"; the exit code is 1 if one failed or
if there was none.
"""

import os
import sys
import unittest


def main():
    folder = os.path.abspath(sys.argv[1])
    sys.dont_write_bytecode = True
    # The package is found by its name, and what stands beside a test, too.
    sys.path[0:1] = [folder, os.path.dirname(os.path.dirname(os.path.abspath(__file__)))]
    suite = unittest.TestSuite()
    for name in sorted(os.listdir(folder)):
        if name.startswith("test_") and name.endswith(".py"):
            suite.addTests(unittest.TestLoader().loadTestsFromName(name[:-3]))
    if suite.countTestCases() == 0:
        print("no test was found in", folder)
        return 1
    result = unittest.TextTestRunner(verbosity=1).run(suite)
    failed = len(result.failures) + len(result.errors) + len(result.unexpectedSuccesses)
    print(f"{result.testsRun - failed - len(result.skipped)} passed, {failed} failed", flush=True)
    return 0 if result.wasSuccessful() else 1


if __name__ == "__main__":
    sys.exit(main())
