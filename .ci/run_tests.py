"""Runs the tests in tests/ and those under ../shared/tests, and ends with a count of them.

Each file runs in a process of its own, so that two files of one name, one here
and one there, don't stand in each other's way.
"""
import os
import pathlib
import re
import subprocess
import sys

TOP = pathlib.Path(__file__).resolve().parent.parent
OWN = TOP / "tests"
SHARED = TOP.parent / "shared" / "tests"
# From 3.12 on, unittest ends with 5 where a file holds no test.
NO_TESTS = 5


def number_told(pattern, text):
    """The numbers that the pattern finds in unittest's closing lines, added."""
    return sum(int(number) for number in re.findall(pattern, text, re.MULTILINE))


def counts_told(output, good):
    """How many tests passed, failed and were skipped, by what unittest printed at its end."""
    start = output.rfind("\nRan ")
    closing = output[start:] if start >= 0 else ""
    ran = number_told(r"^Ran (\d+) tests? in ", closing)
    skipped = number_told(r"\bskipped=(\d+)", closing)
    failed = number_told(r"\b(?:failures|errors|unexpected successes)=(\d+)", closing)
    if not good:
        # A file that breaks off has failed too, though it counts nothing.
        failed = max(failed, 1)
    return max(ran - failed - skipped, 0), failed, skipped


def run_file(path):
    """Run one file; give back how many tests passed, failed and were skipped."""
    env = dict(os.environ, PYTHONPATH=str(TOP), PYTHONDONTWRITEBYTECODE="1")
    command = [sys.executable, "-m", "unittest", path.stem]
    done = subprocess.run(command, cwd=path.parent, env=env, stdin=subprocess.DEVNULL, stdout=subprocess.PIPE,
                          stderr=subprocess.STDOUT, text=True, errors="replace")
    print(f"== {path}\n{done.stdout}", flush=True)
    finished = re.search(r"^Ran \d+ tests? in ", done.stdout, re.MULTILINE) is not None
    return counts_told(done.stdout, finished and done.returncode in (0, NO_TESTS))


def run_folder(folder):
    """Run each test file under the folder; give back the counts of all, and the files that failed."""
    if not folder.is_dir():
        print(f"== {folder} is not here")
    passed, failed, skipped = 0, 0, 0
    failed_files = []
    for path in sorted(folder.rglob("test_*.py")):
        counts = run_file(path)
        passed, failed, skipped = passed + counts[0], failed + counts[1], skipped + counts[2]
        if counts[1] > 0:
            failed_files.append(path)
    return passed, failed, skipped, failed_files


def main():
    own = run_folder(OWN)
    shared = run_folder(SHARED)
    for path in own[3] + shared[3]:
        print(f"FAILED: {path}")
    if sum(own[:2]) == 0:
        print("FAILED: no test of the project ran")
    print(f"{sum(own[:3])} tests of the project, {sum(shared[:3])} of ../shared/tests")
    passed, failed, skipped = own[0] + shared[0], own[1] + shared[1], own[2] + shared[2]
    print(f"{passed} passed, {failed} failed" + (f", {skipped} skipped" if skipped else ""))
    return 1 if failed > 0 or own[0] == 0 else 0


sys.exit(main())
