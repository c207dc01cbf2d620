"""Runs the tests of a folder: python3 -m tests.run FOLDER TOP, where TOP is the folder from which names are counted."""

import sys
import unittest


def main(folder, top):
    """Run all tests, and return 0 if there are any and all of them pass."""
    suite = unittest.TestLoader().discover(folder, pattern="test_*.py", top_level_dir=top)
    result = unittest.TextTestRunner(stream=sys.stdout).run(suite)
    failed = len(result.failures) + len(result.errors) + len(result.unexpectedSuccesses)
    print(f"{result.testsRun - failed - len(result.skipped)} passed, {failed} failed, {len(result.skipped)} skipped", flush=True)
    return 0 if result.testsRun > 0 and failed == 0 else 1


if __name__ == "__main__":
    sys.exit(main(sys.argv[1], sys.argv[2]))
