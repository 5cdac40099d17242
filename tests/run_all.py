"""Runs the tests test_*.py of each folder that is named; fails if one fails, or if the first folder has none."""

import subprocess
import sys
import unittest
from pathlib import Path


def run_folder(folder):
    """Runs the tests of one folder in this process; gives the numbers of those that passed and failed."""
    suite = unittest.defaultTestLoader.discover(str(folder), pattern="test_*.py", top_level_dir=str(folder))
    result = unittest.TextTestRunner(verbosity=1).run(suite)
    failed = len(result.failures) + len(result.errors) + len(result.unexpectedSuccesses)
    skipped = len(result.skipped)
    return (result.testsRun - failed - skipped, failed)


def main(folders):
    if folders[:1] == ["--one"]:
        passed, failed = run_folder(folders[1])
        print(f"{folders[1]}: {passed} passed, {failed} failed", flush=True)
        return 1 if failed > 0 or passed == 0 else 0
    # A process for each folder: files of two folders may have the same name.
    code = 0
    for number, folder in enumerate(folders):
        path = Path(folder)
        if number > 0 and (not path.is_dir() or not list(path.glob("test_*.py"))):
            print(f"{folder}: no tests there", flush=True)
            continue
        done = subprocess.run([sys.executable, __file__, "--one", folder])
        code = code or done.returncode
    return code


if __name__ == "__main__":
    sys.exit(main(sys.argv[1:]))
