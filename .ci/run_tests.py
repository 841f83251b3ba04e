"""Runs all files test_*.py below the folders that are told, and prints how many tests ran."""

import os
import pathlib
import re
import subprocess
import sys

ROOT = pathlib.Path(__file__).resolve().parent.parent


def folders_with_tests(folder):
    """The folders below this one, itself included, that hold tests."""
    return sorted({path.parent for path in (ROOT / folder).rglob("test_*.py")})


def count(pattern, report):
    return sum(int(number) for number in re.findall(pattern, report, re.MULTILINE))


def run(folder):
    """Runs the tests of a folder in a process of its own: (passed, failed, skipped, whether all is well)."""
    # A process for each folder, because files of the same name in two folders are one module to unittest.
    settings = {**os.environ, "PYTHONPATH": str(ROOT), "PYTHONDONTWRITEBYTECODE": "1"}
    command = [sys.executable, "-m", "unittest", "discover", "-s", str(folder), "-t", str(folder)]
    done = subprocess.run(command, cwd=ROOT, env=settings, stderr=subprocess.PIPE, text=True)
    print(f"{folder}:\n{done.stderr}", flush=True)
    last = done.stderr.strip().split("\n")[-1]
    ran = count(r"^Ran (\d+) tests? in ", done.stderr)
    failed = count(r"(?:failures|errors|unexpected successes)=(\d+)", last)
    skipped = count(r"skipped=(\d+)", last)
    return max(ran - failed - skipped, 0), failed, skipped, done.returncode == 0 and ran > 0


def main():
    folders = [found for folder in sys.argv[1:] for found in folders_with_tests(folder)]
    results = [run(folder) for folder in folders]
    passed, failed, skipped = [sum(result[k] for result in results) for k in range(3)]
    print(f"{passed + failed + skipped} tests ran")
    print(f"{passed} passed, {failed} failed, {skipped} skipped")
    return 0 if results and all(result[3] for result in results) else 1


if __name__ == "__main__":
    sys.exit(main())
