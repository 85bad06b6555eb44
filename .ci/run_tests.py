"""Runs the tests in the folders that are named, each folder by itself, and tells how many passed and failed."""

import os
import re
import subprocess
import sys


def test_folders(top):
    """The folders at and below the top that hold a test."""
    found = []
    for folder, below, files in os.walk(top):
        below.sort()
        if any(name.startswith("test_") and name.endswith(".py") for name in files):
            found.append(folder)
    return found


def counted(word, text):
    """How many the summary of unittest tells for the word."""
    return sum(int(number) for number in re.findall(rf"^FAILED \(.*?{word}=(\d+)", text, re.M))


def run_folder(folder):
    """The tuple (how many ran, how many of them failed, whether all is well)."""
    print(f"== {folder}", flush=True)
    command = [sys.executable, "-W", "error::SyntaxWarning", "-m", "unittest", "discover", "-s", folder, "-t", folder]
    done = subprocess.run(command, stderr=subprocess.PIPE, text=True, check=False)
    print(done.stderr, flush=True)
    ran = sum(int(number) for number in re.findall(r"^Ran (\d+) tests?", done.stderr, re.M))
    failed = counted("failures", done.stderr) + counted("errors", done.stderr)
    failed += counted("unexpected successes", done.stderr)
    return ran, failed, done.returncode == 0 and ran > 0


def main(tops):
    """Exits with 0 only if every test passed and the project's own tests are there."""
    results = [[run_folder(folder) for folder in test_folders(top)] for top in tops]
    everything = [result for folders in results for result in folders]
    ran = sum(count for count, _, _ in everything)
    failed = sum(count for _, count, _ in everything)
    well = all(good for _, _, good in everything) and bool(results[0])
    if not well and failed == 0:
        failed = 1
    print(f"{max(ran - failed, 0)} passed, {failed} failed")
    sys.exit(0 if well else 1)


main(sys.argv[1:])
