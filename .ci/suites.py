"""Runs the test_*.py files of each folder that is told, each folder in a process of its own.

The last line tells how many tests passed and failed; the exit code is 1 if one failed.
"""

import os
import subprocess
import sys
import tempfile
import unittest

ROOT = os.path.dirname(os.path.dirname(os.path.abspath(__file__)))


class Counting(unittest.TextTestResult):
    """A result that counts the tests that passed, and those that did not."""

    def __init__(self, *told, **more):
        super().__init__(*told, **more)
        self.wrong = {}

    def addError(self, test, err):
        super().addError(test, err)
        self.wrong[test.id()] = True

    def addFailure(self, test, err):
        super().addFailure(test, err)
        self.wrong[test.id()] = True

    def addSubTest(self, test, subtest, err):
        super().addSubTest(test, subtest, err)
        if err is not None:
            self.wrong[test.id()] = True

    def addUnexpectedSuccess(self, test):
        super().addUnexpectedSuccess(test)
        self.wrong[test.id()] = True


def run_folder(folder, report):
    """Runs the tests of one folder and writes its counts to the report file."""
    sys.path.insert(0, ROOT)
    suite = unittest.TestLoader().discover(folder, pattern="test_*.py", top_level_dir=folder)
    runner = unittest.TextTestRunner(stream=sys.stderr, resultclass=Counting, verbosity=1)
    result = runner.run(suite)
    skipped = len(result.skipped)
    # A folder whose setUpClass fails has an error without a test run.
    failed = len(result.wrong)
    passed = max(result.testsRun - failed - skipped, 0)
    with open(report, "w", encoding="utf-8") as out:
        out.write(f"{passed} {failed}")


def counts_of(folder):
    """The pair (passed, failed) of a folder; a process that dies counts as one failure."""
    with tempfile.TemporaryDirectory() as place:
        report = os.path.join(place, "counts")
        command = [sys.executable, os.path.abspath(__file__), "--folder", folder, report]
        done = subprocess.run(command, cwd=ROOT)
        if done.returncode != 0 or not os.path.exists(report):
            return 0, 1
        with open(report, encoding="utf-8") as told:
            passed, failed = told.read().split()
    return int(passed), int(failed)


def has_tests(folder):
    """True if the folder is there and holds a test file, also in a folder below it."""
    for _, _, names in os.walk(folder):
        if any(name.startswith("test_") and name.endswith(".py") for name in names):
            return True
    return False


def main(folders):
    passed = failed = 0
    for name in folders:
        folder = os.path.join(ROOT, name)
        if has_tests(folder):
            more, wrong = counts_of(folder)
            passed += more
            failed += wrong
    if passed + failed == 0:
        failed = 1
    sys.stderr.flush()
    print(f"{passed} passed, {failed} failed", flush=True)
    return 1 if failed else 0


if __name__ == "__main__":
    if sys.argv[1:2] == ["--folder"]:
        run_folder(sys.argv[2], sys.argv[3])
    else:
        sys.exit(main(sys.argv[1:]))
