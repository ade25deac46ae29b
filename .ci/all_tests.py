"""Runs every test_*.py below the folders that are named, prints the count, and fails if a test fails.

Each file is loaded under a name of its own, so that files of one name in two folders are both run.
"""

import importlib.util
import pathlib
import sys
import traceback
import unittest


class Counting(unittest.TextTestResult):
    """Counts the tests that pass: the failures alone don't tell it, as one test may fail several times."""

    passed = 0

    def addSuccess(self, test):
        super().addSuccess(test)
        self.passed += 1

    def addExpectedFailure(self, test, err):
        super().addExpectedFailure(test, err)
        self.passed += 1


def load(path, name):
    spec = importlib.util.spec_from_file_location(name, path)
    module = importlib.util.module_from_spec(spec)
    sys.modules[name] = module
    spec.loader.exec_module(module)
    return unittest.defaultTestLoader.loadTestsFromModule(module)


def run_file(path, name):
    """How many passed, failed and were skipped; a file that can't be loaded or holds no test is a failure."""
    print(f"== {path}", flush=True)
    paths = list(sys.path)
    sys.path.insert(0, str(path.parent.resolve()))
    try:
        suite = load(path, name)
        if suite.countTestCases() == 0:
            print("the file holds no test")
            return 0, 1, 0
        result = unittest.TextTestRunner(stream=sys.stdout, resultclass=Counting).run(suite)
    except (Exception, SystemExit):
        traceback.print_exc(file=sys.stdout)
        return 0, 1, 0
    finally:
        sys.path[:] = paths
    failed = len(result.failures) + len(result.errors) + len(result.unexpectedSuccesses)
    return result.passed, failed, len(result.skipped)


def main(folders):
    # The package at the top of the repository is imported by its module names.
    sys.path.insert(0, str(pathlib.Path(__file__).resolve().parent.parent))
    print(f"Python {sys.version.split()[0]}")
    for folder in folders:
        if not pathlib.Path(folder).is_dir():
            print(f"the folder {folder} is not there")
            return 1
    files = [path for folder in folders for path in sorted(pathlib.Path(folder).rglob("test_*.py"))]
    counts = [run_file(path, f"file{number}_{path.stem}") for number, path in enumerate(files)]
    passed, failed, skipped = (sum(count[k] for count in counts) for k in range(3))
    print(f"{passed} passed, {failed} failed, {skipped} skipped", flush=True)
    return 0 if passed and not failed else 1


if __name__ == "__main__":
    sys.exit(main(sys.argv[1:]))
