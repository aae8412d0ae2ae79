"""Runs all tests beside this file and all test_*.py below the folders that are told.

A last line tells how many passed.
"""

import pathlib
import re
import subprocess
import sys
import unittest

ROOT = pathlib.Path(__file__).resolve().parent.parent


def run_project():
    """Run the project's own tests; tell how many there were and how many did not pass."""
    sys.path.insert(0, str(ROOT))
    suite = unittest.TestLoader().discover(str(ROOT / "tests"), top_level_dir=str(ROOT))
    result = unittest.TextTestRunner(stream=sys.stdout).run(suite)
    bad = len(result.failures) + len(result.errors) + len(result.unexpectedSuccesses)
    return result.testsRun, bad if result.testsRun else 1


def run_folder(place):
    """Run the tests of one folder by a Python of their own, so that nothing of this one meets them."""
    command = [sys.executable, "-m", "unittest", "discover", "-s", str(place), "-p", "test_*.py"]
    done = subprocess.run(command, cwd=ROOT, stdout=subprocess.PIPE, stderr=subprocess.STDOUT, text=True)
    print(done.stdout)
    ran = sum(int(many) for many in re.findall(r"^Ran (\d+) test", done.stdout, re.MULTILINE))
    bad = sum(int(many) for many in re.findall(r"(?:failures|errors|unexpected successes)=(\d+)", done.stdout))
    return ran, max(bad, 1) if done.returncode else 0


def main(folders):
    results = [run_project()]
    for folder in folders:
        for place in sorted({path.parent for path in pathlib.Path(folder).resolve().rglob("test_*.py")}):
            results.append(run_folder(place))
    ran, bad = sum(many for many, _ in results), sum(many for _, many in results)
    print(f"{max(ran - bad, 0)} passed, {bad} failed", flush=True)
    return 1 if bad else 0


if __name__ == "__main__":
    sys.exit(main(sys.argv[1:]))
