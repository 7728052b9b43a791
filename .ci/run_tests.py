"""Runs each test_*.py below the folders named; ends with 1 if a test fails or a file has none."""

import pathlib
import subprocess
import sys

# A program that goes round without end must fail its test, not hold up the run.
MOST_SECONDS = 300


def run_file(path):
    print(f"== {path}", flush=True)
    # One process a file, so that files of one name don't hide one another.
    command = [sys.executable, "-m", "unittest", "-v", path.stem]
    try:
        done = subprocess.run(command, cwd=path.parent, stdout=subprocess.PIPE, stderr=subprocess.STDOUT,
                              text=True, timeout=MOST_SECONDS)
    except subprocess.TimeoutExpired:
        print(f"not done after {MOST_SECONDS} seconds", flush=True)
        return False
    print(done.stdout, flush=True)
    return done.returncode == 0 and "\nRan 0 tests" not in done.stdout


def main(folders):
    passed = []
    failed = []
    for folder in folders:
        for path in sorted(pathlib.Path(folder).rglob("test_*.py")):
            (passed if run_file(path) else failed).append(path)
    for path in failed:
        print(f"failed: {path}")
    print(f"files: {len(passed)} passed, {len(failed)} failed")
    return 1 if failed or not passed else 0


if __name__ == "__main__":
    sys.exit(main(sys.argv[1:]))
