"""Runs every test of the project, and every one under ../shared/tests, and tells how many passed and failed."""

import os
import re
import subprocess
import sys
import unittest

ROOT = os.path.dirname(os.path.dirname(os.path.abspath(__file__)))
SHARED = os.path.join(os.path.dirname(ROOT), "shared", "tests")


def own_tests():
    """How many tests of the project passed and failed."""
    sys.path.insert(0, ROOT)
    suite = unittest.defaultTestLoader.discover(os.path.join(ROOT, "tests"), top_level_dir=ROOT)
    result = unittest.TextTestRunner(stream=sys.stdout, verbosity=2).run(suite)
    failed = len(result.failures) + len(result.errors) + len(result.unexpectedSuccesses)
    if result.testsRun == 0:
        failed = 1
    return max(0, result.testsRun - failed), failed


def shared_files():
    """The tests under ../shared/tests, where that folder is."""
    files = []
    for folder, _, names in os.walk(SHARED):
        files.extend((folder, name) for name in names if re.fullmatch(r"test_.*\.py", name))
    return sorted(files)


def shared_test(folder, name):
    """How many tests of one shared file passed and failed."""
    command = [sys.executable, "-m", "unittest", "discover", "-v", "-s", folder, "-t", folder, "-p", name]
    surroundings = dict(os.environ, PYTHONPATH=ROOT)
    done = subprocess.run(command, cwd=ROOT, env=surroundings, stdout=subprocess.PIPE, stderr=subprocess.STDOUT,
                          text=True, check=False)
    print(done.stdout)
    found = re.search(r"^Ran (\d+) test", done.stdout, re.MULTILINE)
    ran = int(found.group(1)) if found else 0
    if done.returncode == 0 or done.returncode == 5 and found and ran == 0:
        return ran, 0
    counts = [int(count) for count in re.findall(r"(?:failures|errors|unexpected successes)=(\d+)", done.stdout)]
    failed = max(1, sum(counts))
    return max(0, ran - failed), failed


def main():
    print(sys.version)
    passed, failed = own_tests()
    for folder, name in shared_files():
        more, worse = shared_test(folder, name)
        passed, failed = passed + more, failed + worse
    print("%d passed, %d failed" % (passed, failed))
    return 1 if failed else 0


if __name__ == "__main__":
    sys.exit(main())
