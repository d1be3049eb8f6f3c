"""Runs every test beside the package and every file test_*.py under ../shared/tests.

Each file is run by a process of its own, some of them side by side. The last
line tells how many tests passed and how many failed.
"""

import concurrent.futures
import os
import pathlib
import re
import subprocess
import sys

HERE = pathlib.Path(__file__).resolve().parent
ROOT = HERE.parent
SHARED = ROOT.parent / "shared" / "tests"


def run_file(path):
    """The exit code and the output of the tests of one file."""
    paths = [str(ROOT)] + [part for part in [os.environ.get("PYTHONPATH")] if part]
    more = dict(os.environ, PYTHONPATH=os.pathsep.join(paths), PYTHONDONTWRITEBYTECODE="1")
    call = [sys.executable, "-B", "-m", "unittest", "discover", "-s", str(path.parent), "-p", path.name]
    if path.parent == HERE:
        call += ["-t", str(ROOT)]
    done = subprocess.run(call, cwd=ROOT, env=more, stdout=subprocess.PIPE, stderr=subprocess.STDOUT, text=True)
    # Newer Pythons end with 5 where a file has no test at all, which is no failure.
    return (0 if done.returncode == 5 else done.returncode), done.stdout


def counts(code, output):
    """How many tests passed and how many failed; a file that cannot be run counts as failed."""
    ran = re.search(r"^Ran (\d+) tests?", output, re.MULTILINE)
    many = int(ran.group(1)) if ran else 0
    wrong = sum(int(number) for number in re.findall(r"(?:failures|errors|unexpected successes)=(\d+)", output))
    if code:
        wrong = max(wrong, 1)
    return max(many - wrong, 0), wrong


def main():
    """Run all files; 1 if a test fails, or if none of the project's own was run."""
    own = sorted(HERE.glob("test_*.py"))
    given = sorted(SHARED.rglob("test_*.py")) if SHARED.is_dir() else []
    passed = failed = 0
    with concurrent.futures.ThreadPoolExecutor(max_workers=max(1, os.cpu_count() or 1)) as pool:
        for path, (code, output) in zip(own + given, pool.map(run_file, own + given)):
            good, bad = counts(code, output)
            passed += good
            failed += bad
            print(f"{path.name}: {good} passed, {bad} failed", flush=True)
            if code:
                print(output, flush=True)
    print(f"{passed} passed, {failed} failed", flush=True)
    return 1 if failed or not passed else 0


if __name__ == "__main__":
    sys.exit(main())
