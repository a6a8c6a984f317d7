"""Runs the project's tests and those under ../shared/tests, prints how many ran, and fails if one fails."""

import os
import re
import subprocess
import sys
from pathlib import Path

ROOT = Path(__file__).resolve().parent.parent
SHARED = ROOT.parent / "shared" / "tests"
SECONDS = 2400

# What unittest exits with from Python 3.12 on if it finds no test.
NO_TESTS = 5


def run_folder(folder, top, pattern):
    """Run the tests of a folder in a process of their own; return how many ran and how many did not pass."""
    command = [sys.executable, "-B", "-m", "unittest", "discover", "-s", folder, "-t", top, "-p", pattern]
    surroundings = {**os.environ, "PYTHONPATH": str(ROOT), "PYTHONDONTWRITEBYTECODE": "1"}
    try:
        done = subprocess.run(
            command, cwd=ROOT, env=surroundings, stdin=subprocess.DEVNULL, stdout=subprocess.PIPE,
            stderr=subprocess.STDOUT, text=True, errors="replace", timeout=SECONDS,
        )
    except subprocess.TimeoutExpired:
        print(f"{folder}/{pattern}: no end after {SECONDS} seconds")
        return 0, 1
    print(done.stdout, end="", flush=True)
    found = re.findall(r"^Ran (\d+) tests? in ", done.stdout, re.MULTILINE)
    ran = int(found[-1]) if found else 0
    if found and done.returncode in (0, NO_TESTS):
        return ran, 0
    wrong = re.findall(r"(?:failures|errors|unexpected successes)=(\d+)", done.stdout)
    return ran, max(1, sum(map(int, wrong)))


def main():
    results = [run_folder(str(ROOT / "tests"), str(ROOT), "test_*.py")]
    if results[0][0] == 0:
        print("no test of the project ran")
        return 1
    # Each file has a process of its own: two files in two folders may have the same name.
    for path in sorted(SHARED.rglob("test_*.py")):
        print(f"-- {path}", flush=True)
        results.append(run_folder(str(path.parent), str(path.parent), path.name))
    ran = sum(many for many, _ in results)
    failed = sum(wrong for _, wrong in results)
    print(f"{ran} tests ran")
    print(f"{max(0, ran - failed)} passed, {failed} failed", flush=True)
    return 1 if failed else 0


if __name__ == "__main__":
    sys.exit(main())
