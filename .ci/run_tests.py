"""Runs every test file of the project and of ../shared/tests, each folder in a process of its own.

The last line tells how many tests passed and failed. The exit code is 0 only if none failed.
"""

import os
import subprocess
import sys
import unittest

ROOT = os.path.dirname(os.path.dirname(os.path.abspath(__file__)))
OWN = os.path.join(ROOT, "tests")
SHARED = os.path.join(os.path.dirname(ROOT), "shared", "tests")
TALLY = "tally:"


def test_files(folder):
    return sorted(name for name in os.listdir(folder) if name.startswith("test_") and name.endswith(".py"))


def folders_with_tests(top):
    return sorted(folder for folder, _, _ in os.walk(top) if test_files(folder))


def tally(result):
    """Return how many tests passed and how many failed; a test with several failed subtests counts once."""
    told = result.failures + result.errors
    failed = {getattr(test, "test_case", test).id() for test, _ in told}
    failed |= {test.id() for test in result.unexpectedSuccesses}
    quiet = len(result.skipped) + len(result.expectedFailures)
    return max(0, result.testsRun - len(failed) - quiet), len(failed)


def run_folder(folder):
    """Run the tests of one folder in this process, and print the tally."""
    sys.path[:0] = [folder, ROOT]
    suite = unittest.defaultTestLoader.loadTestsFromNames([name[:-3] for name in test_files(folder)])
    result = unittest.TextTestRunner(stream=sys.stdout, verbosity=1).run(suite)
    # What a test printed may have no line end.
    print("\n" + TALLY, *tally(result), flush=True)


def tally_of_folder(folder):
    """Run the tests of one folder in another process. One that breaks off counts as a failed test."""
    print("tests of", folder, flush=True)
    done = subprocess.run(
        [sys.executable, os.path.abspath(__file__), folder],
        stdout=subprocess.PIPE, stderr=subprocess.STDOUT, text=True, cwd=ROOT,
    )
    print(done.stdout, flush=True)
    tallies = [line for line in done.stdout.splitlines() if line.startswith(TALLY)]
    if done.returncode != 0 or not tallies:
        return 0, 1
    passed, failed = tallies[-1][len(TALLY):].split()
    return int(passed), int(failed)


def main():
    if len(sys.argv) == 2:
        run_folder(sys.argv[1])
        return 0
    own = folders_with_tests(OWN)
    tallies = [tally_of_folder(folder) for folder in own + folders_with_tests(SHARED)]
    passed = sum(pair[0] for pair in tallies)
    failed = sum(pair[1] for pair in tallies)
    print(f"{passed} passed, {failed} failed", flush=True)
    return 0 if passed and not failed else 1


if __name__ == "__main__":
    sys.exit(main())
