"""Run the tests in tests and in ../shared/tests, and fail if one fails or if the project has none."""

import os
import sys
import unittest

TOP = os.path.dirname(os.path.dirname(os.path.abspath(__file__)))
SHARED = os.path.join(os.path.dirname(TOP), "shared", "tests")


def run(folder):
    """The result of all tests in a folder; the folders are told apart, so that names may be alike."""
    suite = unittest.TestLoader().discover(folder, pattern="test_*.py", top_level_dir=folder)
    return unittest.TextTestRunner(verbosity=1).run(suite)


def has_tests(folder):
    for _, _, names in os.walk(folder):
        if any(name.startswith("test_") and name.endswith(".py") for name in names):
            return True
    return False


def forget_modules(folder):
    for name, module in list(sys.modules.items()):
        path = getattr(module, "__file__", None) or ""
        if os.path.abspath(path).startswith(os.path.abspath(folder) + os.sep):
            del sys.modules[name]


def main():
    own = os.path.join(TOP, "tests")
    results = [run(own)]
    if os.path.isdir(SHARED) and has_tests(SHARED):
        forget_modules(own)
        sys.path[:] = [path for path in sys.path if os.path.abspath(path) != own]
        results.append(run(SHARED))
    many = sum(result.testsRun for result in results)
    failed = sum(len(result.failures) + len(result.errors) + len(result.unexpectedSuccesses) for result in results)
    skipped = sum(len(result.skipped) for result in results)
    print(f"{many - failed - skipped} passed, {failed} failed, {skipped} skipped")
    is_right = all(result.wasSuccessful() for result in results) and all(result.testsRun > 0 for result in results)
    sys.exit(0 if is_right else 1)


main()
