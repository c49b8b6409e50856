"""Run the tests of one folder, and print as the last line how many ran and how many failed."""

import sys
import unittest


def main(folder, top):
    loader = unittest.TestLoader()
    suite = loader.discover(folder, pattern="test_*.py", top_level_dir=top)
    result = unittest.TextTestRunner(stream=sys.stderr).run(suite)
    # Parts of one test may fail several times; it still counts once.
    wrong = {getattr(test, "test_case", test).id() for test, _ in result.failures + result.errors}
    wrong.update(test.id() for test in result.unexpectedSuccesses)
    print()
    print(result.testsRun, len(wrong))
    return 0 if result.wasSuccessful() else 1


if __name__ == "__main__":
    sys.exit(main(sys.argv[1], sys.argv[2]))
