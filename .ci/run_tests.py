"""Runs each file test_*.py under the folders in a process of its own, and counts their tests.

A process for each file, as files of the two folders may have the same name.
"""

import concurrent.futures
import os
import re
import subprocess
import sys

ROOT = os.path.dirname(os.path.dirname(os.path.abspath(__file__)))


def find_tests(folder):
    found = []
    for place, _, names in os.walk(folder):
        found.extend((place, name) for name in names if re.fullmatch(r"test_.*\.py", name))
    return sorted(found)


def run_file(test):
    place, name = test
    paths = [ROOT, os.environ.get("PYTHONPATH", "")]
    environment = dict(os.environ, PYTHONPATH=os.pathsep.join(path for path in paths if path))
    command = [sys.executable, "-B", "-m", "unittest", "discover", "-s", place, "-t", place, "-p", name]
    done = subprocess.run(command, cwd=ROOT, env=environment, capture_output=True, text=True)
    return test, done.returncode, done.stdout + done.stderr


def count_tests(code, told):
    """How many tests passed and failed; a file that could not be run is one that failed."""
    ran = re.search(r"^Ran (\d+) tests?", told, re.MULTILINE)
    total = int(ran.group(1)) if ran else 0
    if code == 0 or (code == 5 and total == 0):
        return total, 0
    bad = sum(int(many) for many in re.findall(r"(?<!expected )(?:failures|errors)=(\d+)", told))
    bad = min(max(bad, 1), max(total, 1))
    return max(total - bad, 0), bad


def main(folders):
    tests = [test for folder in folders if os.path.isdir(folder) for test in find_tests(folder)]
    passed = failed = 0
    with concurrent.futures.ThreadPoolExecutor(os.cpu_count() or 1) as pool:
        for (place, name), code, told in pool.map(run_file, tests):
            good, bad = count_tests(code, told)
            passed += good
            failed += bad
            print(f"{os.path.join(place, name)}: {good} passed, {bad} failed")
            if bad:
                print(told)
    print(f"{passed} passed, {failed} failed")
    return 1 if failed or not passed else 0


if __name__ == "__main__":
    sys.exit(main(sys.argv[1:]))
