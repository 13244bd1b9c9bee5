"""Runs the test_*.py files of each folder that is told, each file in a process of its own.

The last line tells how many tests passed and failed; the exit code is 1 if one failed.
"""

import os
import subprocess
import sys
import tempfile
import unittest
from concurrent.futures import ThreadPoolExecutor

ROOT = os.path.dirname(os.path.dirname(os.path.abspath(__file__)))


class Counting(unittest.TextTestResult):
    """A result that counts the tests that passed, and those that did not."""

    def __init__(self, *told, **more):
        super().__init__(*told, **more)
        self.wrong = {}

    def addError(self, test, err):
        super().addError(test, err)
        self.wrong[test.id()] = True

    def addFailure(self, test, err):
        super().addFailure(test, err)
        self.wrong[test.id()] = True

    def addSubTest(self, test, subtest, err):
        super().addSubTest(test, subtest, err)
        if err is not None:
            self.wrong[test.id()] = True

    def addUnexpectedSuccess(self, test):
        super().addUnexpectedSuccess(test)
        self.wrong[test.id()] = True


def run_module(folder, name, report):
    """Runs the tests of one file of a folder and writes its counts to the report file."""
    sys.path[:0] = [folder, ROOT]
    suite = unittest.TestLoader().loadTestsFromName(name)
    runner = unittest.TextTestRunner(stream=sys.stderr, resultclass=Counting, verbosity=1)
    result = runner.run(suite)
    skipped = len(result.skipped)
    # A class whose setUpClass fails has an error without a test run.
    failed = len(result.wrong)
    passed = max(result.testsRun - failed - skipped, 0)
    with open(report, "w", encoding="utf-8") as out:
        out.write(f"{passed} {failed}")


def counts_of(told):
    """The triple (passed, failed, output) of one file; a process that dies counts as one failure."""
    folder, name = told
    with tempfile.TemporaryDirectory() as place:
        report = os.path.join(place, "counts")
        command = [sys.executable, os.path.abspath(__file__), "--module", folder, name, report]
        done = subprocess.run(command, cwd=ROOT, stdout=subprocess.PIPE, stderr=subprocess.STDOUT)
        output = f"== {os.path.basename(folder)}/{name}\n" + done.stdout.decode("utf-8", "replace")
        if done.returncode != 0 or not os.path.exists(report):
            return 0, 1, output
        with open(report, encoding="utf-8") as counts:
            passed, failed = counts.read().split()
    return int(passed), int(failed), output


def test_modules(folder):
    """The names of the test modules of a folder, also of those in folders below it."""
    found = []
    for place, _, names in os.walk(folder):
        for name in names:
            if name.startswith("test_") and name.endswith(".py"):
                path = os.path.relpath(os.path.join(place, name), folder)
                found.append(path[:-3].replace(os.sep, "."))
    return sorted(found)


def main(folders):
    told = [(os.path.join(ROOT, name), module) for name in folders for module in test_modules(os.path.join(ROOT, name))]
    passed = failed = 0
    # Each file has a process of its own, so that they run beside one another and leave nothing behind.
    with ThreadPoolExecutor(max_workers=os.cpu_count() or 1) as pool:
        for more, wrong, output in pool.map(counts_of, told):
            sys.stderr.write(output)
            passed += more
            failed += wrong
    if passed + failed == 0:
        failed = 1
    sys.stderr.flush()
    print(f"{passed} passed, {failed} failed", flush=True)
    return 1 if failed else 0


if __name__ == "__main__":
    if sys.argv[1:2] == ["--module"]:
        run_module(*sys.argv[2:])
    else:
        sys.exit(main(sys.argv[1:]))
