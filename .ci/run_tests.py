"""Runs the test files below the given folders, and says in the last line how many tests ran."""

import os
import re
import subprocess
import sys

ROOT = os.path.dirname(os.path.dirname(os.path.abspath(__file__)))


def folders_with_tests(top):
    """Return the folders, from the top one on, that hold a file test_*.py."""
    found = []
    for folder, inner, files in os.walk(top):
        inner.sort()
        if any(name.startswith("test_") and name.endswith(".py") for name in files):
            found.append(folder)
    return found


def run_folder(folder):
    """Run the tests of one folder in a process of its own; return how many passed and failed."""
    # A process of its own, as two folders may have files of the same name.
    command = [sys.executable, "-B", "-m", "unittest", "discover", "-s", folder, "-t", folder]
    environment = dict(os.environ, PYTHONPATH=ROOT)
    done = subprocess.run(command, cwd=ROOT, env=environment, stderr=subprocess.PIPE, text=True)
    sys.stdout.write(f"{folder}\n{done.stderr}")
    ran = re.search(r"^Ran (\d+) tests? in", done.stderr, re.MULTILINE)
    many = int(ran.group(1)) if ran else 0
    wrong = re.search(r"^FAILED \((.*)\)$", done.stderr, re.MULTILINE)
    failed = sum(int(count) for count in re.findall(r"(?:failures|errors|unexpected successes)=(\d+)",
                                                    wrong.group(1) if wrong else ""))
    if done.returncode != 0 or many == 0:
        failed = max(failed, 1)
    return max(0, many - failed), failed


def main():
    passed = failed = 0
    for top in sys.argv[1:]:
        for folder in folders_with_tests(os.path.join(ROOT, top)):
            counts = run_folder(folder)
            passed += counts[0]
            failed += counts[1]
    print(f"{passed} passed, {failed} failed")
    return 1 if failed > 0 or passed == 0 else 0


if __name__ == "__main__":
    sys.exit(main())
