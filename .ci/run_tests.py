"""Runs the test_*.py files of each folder handed in, and of those beneath it; exits 1 if one test fails.

Each file runs in a process of its own, from its own folder's modules and the program's: so files in
unlike folders may bear one name.
"""

import os
import subprocess
import sys
import unittest


def test_files(folder):
    """The test files of a folder and those beneath it, in order."""
    if not os.path.isdir(folder):
        sys.exit(f"no folder {folder}")
    found = []
    for path, folders, names in os.walk(folder):
        found.extend(os.path.join(path, name) for name in names if name.startswith("test_") and name.endswith(".py"))
    return sorted(found)


def run_file(path):
    """Runs one file here, and prints how many tests of it passed and failed."""
    folder, name = os.path.split(os.path.abspath(path))
    sys.path.insert(0, folder)
    suite = unittest.defaultTestLoader.loadTestsFromName(name[:-3])
    result = unittest.TextTestRunner(stream=sys.stdout).run(suite)
    bad = len(result.failures) + len(result.errors) + len(result.unexpectedSuccesses)
    print(f"counted {result.testsRun} {bad}")
    return 0 if result.wasSuccessful() else 1


def run_apart(path):
    """Runs one file in a process of its own: how many tests it ran, how many failed, whether all went well."""
    print(f"== {path}", flush=True)
    ended = subprocess.run([sys.executable, __file__, "--file", path], stdout=subprocess.PIPE,
                           stderr=subprocess.STDOUT, text=True)
    rows = ended.stdout.splitlines()
    counted = [row.split()[1:] for row in rows if row.startswith("counted ")][-1:]
    print("\n".join(row for row in rows if not row.startswith("counted ")), flush=True)
    # A file that ends ahead of its count, as one that can't be read, counts as one failed test.
    if not counted:
        return 1, 1, False
    return int(counted[0][0]), int(counted[0][1]), ended.returncode == 0


def main(words):
    if words[:1] == ["--file"]:
        return run_file(words[1])
    ran = failed = 0
    well = True
    for folder in words:
        for path in test_files(folder):
            count, bad, good = run_apart(path)
            ran += count
            failed += bad
            well = well and good
    print(f"{max(0, ran - failed)} passed, {failed} failed")
    return 0 if well and failed == 0 and ran > 0 else 1


if __name__ == "__main__":
    sys.exit(main(sys.argv[1:]))
