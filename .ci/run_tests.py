"""Runs each test file in a process of its own, and tells how many tests ran, passed and failed."""

import os
import pathlib
import re
import subprocess
import sys

ROOT = pathlib.Path(__file__).resolve().parent.parent
FOLDERS = (ROOT / "tests", ROOT.parent / "shared" / "tests")


def counted(word, text):
    found = re.search(word, text)
    return int(found.group(1)) if found else 0


def run_file(path):
    env = dict(os.environ, PYTHONPATH=os.pathsep.join([str(ROOT), str(path.parent)]), PYTHONDONTWRITEBYTECODE="1")
    done = subprocess.run([sys.executable, "-m", "unittest", path.stem], cwd=ROOT, env=env, text=True,
                          stdin=subprocess.DEVNULL, stdout=subprocess.PIPE, stderr=subprocess.STDOUT)
    ran = counted(r"(?m)^Ran (\d+) tests? in", done.stdout)
    closing = done.stdout.strip().rsplit("\n", 1)[-1]
    failed = sum(counted(word, closing) for word in (r"\bfailures=(\d+)", r"errors=(\d+)", r"unexpected successes=(\d+)"))
    skipped = counted(r"skipped=(\d+)", closing)
    empty = ran == 0 and done.returncode in (0, 5)
    if done.returncode != 0 and not empty:
        print(done.stdout)
        failed = max(failed, 1)
    print(f"{path}: {ran} ran, {failed} failed")
    return max(ran - failed - skipped, 0), failed, skipped


def main():
    passed = failed = skipped = 0
    for folder in FOLDERS:
        if not folder.is_dir():
            sys.exit(f"no folder {folder}")
        for path in sorted(folder.rglob("test_*.py")):
            counts = run_file(path)
            passed, failed, skipped = passed + counts[0], failed + counts[1], skipped + counts[2]
    print(f"{passed + failed + skipped} tests ran")
    print(f"{passed} passed, {failed} failed, {skipped} skipped")
    sys.exit(1 if failed or not passed else 0)


main()
