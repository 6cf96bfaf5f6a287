"""Runs the files test_*.py below the folders that are named, and prints how many tests ran.

Each folder has a process of its own, so that files of the same name in two folders don't meet.
"""

import pathlib
import re
import subprocess
import sys

# What unittest ends with under newer Pythons where a folder's files hold no test.
NO_TEST_RAN = 5


def folders_with_tests(roots):
    for root in roots:
        yield from sorted({file.parent for file in pathlib.Path(root).rglob("test_*.py")})


def last_number(pattern, report):
    found = re.findall(pattern, report)
    return int(found[-1]) if found else 0


def run_folder(folder):
    """Runs one folder's tests and gives how many passed, failed and were skipped."""
    print(f"== {folder}", flush=True)
    command = [sys.executable, "-m", "unittest", "discover", "-s", str(folder), "-t", str(folder)]
    done = subprocess.run(command, stderr=subprocess.PIPE, text=True)
    print(done.stderr, flush=True)
    last_rows = done.stderr[-500:]
    ran = last_number(r"(?m)^Ran (\d+) tests? in", last_rows)
    failed = last_number(r"(?<!expected )failures=(\d+)", last_rows) + last_number(r"errors=(\d+)", last_rows)
    failed += last_number(r"unexpected successes=(\d+)", last_rows)
    skipped = last_number(r"skipped=(\d+)", last_rows)
    # A process that broke off may have told of no failure, and may even have ended with 0.
    broke_off = done.returncode not in (0, NO_TEST_RAN) or "\nRan " not in last_rows
    if broke_off and failed == 0:
        failed = 1
    return max(ran - failed - skipped, 0), failed, skipped


def main(roots):
    missing = [root for root in roots if not pathlib.Path(root).is_dir()]
    if missing:
        print(f"no such folder: {missing}")
        return 1
    counts = [run_folder(folder) for folder in folders_with_tests(roots)]
    passed, failed, skipped = [sum(column) for column in zip(*counts)] if counts else (0, 0, 0)
    print(f"{passed + failed} tests ran")
    print(f"{passed} passed, {failed} failed, {skipped} skipped")
    return 0 if passed > 0 and failed == 0 else 1


if __name__ == "__main__":
    sys.exit(main(sys.argv[1:]))
