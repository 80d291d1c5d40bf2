"""Runs the tests of the project and those under ../shared/tests, and prints how many ran."""

import os
import pathlib
import re
import subprocess
import sys

ROOT = pathlib.Path(__file__).resolve().parents[1]
SHARED = ROOT.parent / "shared" / "tests"


def folders_of(top):
    """The folders from which unittest is to look for tests: it goes on into packages by itself."""
    if not top.is_dir():
        return []
    folders = [top, *sorted(path for path in top.rglob("*") if path.is_dir())]
    return [folder for folder in folders if not (folder / "__init__.py").exists() and has_tests(folder)]


def has_tests(folder):
    """Tells whether the folder, or a package in it, holds a file of tests."""
    if any(folder.glob("test_*.py")):
        return True
    return any(has_tests(inner) for inner in folder.iterdir() if (inner / "__init__.py").exists())


def run(folder, top, least):
    """Runs the tests of a folder, at least so many; returns how many passed, failed and were skipped."""
    command = [sys.executable, "-m", "unittest", "discover", "-s", str(folder), "-t", str(top)]
    path = os.pathsep.join(filter(None, [str(ROOT), os.environ.get("PYTHONPATH")]))
    done = subprocess.run(command, cwd=ROOT, env={**os.environ, "PYTHONPATH": path}, text=True,
                          stdout=subprocess.PIPE, stderr=subprocess.STDOUT)
    print(f"== {folder}\n{done.stdout}", flush=True)
    ran = re.findall(r"^Ran (\d+) tests?", done.stdout, re.M)
    ran = int(ran[-1]) if ran else 0
    told = dict(re.findall(r"(\w+)=(\d+)", done.stdout.strip().split("\n")[-1]))
    skipped = int(told.get("skipped", 0))
    failed = 0
    # From Python 3.12 on unittest exits with 5 if there was no test.
    nothing_to_run = ran == 0 and done.returncode in (0, 5)
    if ran < least or done.returncode != 0 and not nothing_to_run:
        failed = max(1, sum(int(told.get(word, 0)) for word in ("failures", "errors", "successes")))
    return max(0, ran - failed - skipped), failed, skipped


def main():
    counts = [run(ROOT / "tests", ROOT, 1)]
    counts += [run(folder, folder, 0) for folder in folders_of(SHARED)]
    passed, failed, skipped = map(sum, zip(*counts))
    print(f"{passed} passed, {failed} failed, {skipped} skipped")
    return 1 if failed else 0


if __name__ == "__main__":
    sys.exit(main())
