"""Run every test_*.py below a folder: python3 tests/run.py FOLDER.

Each folder that holds tests is run by a python3 -m unittest of its own, so
that two files of one name in two folders do not get in each other's way.
"""

import os
import subprocess
import sys


def folders_with_tests(top):
    found = []
    for folder, inner, files in sorted(os.walk(top)):
        names = sorted(name[:-3] for name in files if name.startswith("test_") and name.endswith(".py"))
        if names:
            found.append((folder, names))
    return found


def main(top):
    failed = 0
    for folder, names in folders_with_tests(top):
        print("tests in " + folder, flush=True)
        failed += subprocess.run([sys.executable, "-m", "unittest", *names], cwd=folder).returncode != 0
    return 1 if failed else 0


if __name__ == "__main__":
    sys.exit(main(sys.argv[1]))
