"""Runs the tests under tests and ../shared/tests, and prints how many ran.

Each folder is run in a process of its own, so that files of one name in two folders do not meet. The program must
behave the same under Python 3.11 and 3.13: where the other one is at hand, the tests run under it, too.
"""

import concurrent.futures
import glob
import os
import subprocess
import sys
import unittest

ROOT = os.path.dirname(os.path.dirname(os.path.abspath(__file__)))
WANTED = ((3, 11), (3, 13))


def folders():
    """Every folder with a test, of the project and of what is shared."""
    found = []
    for top in (os.path.join(ROOT, "tests"), os.path.join(ROOT, os.pardir, "shared", "tests")):
        for folder, _, files in sorted(os.walk(top)):
            if any(name.startswith("test_") and name.endswith(".py") for name in files):
                found.append(os.path.normpath(folder))
    return found


def version_of(python):
    """The version of this Python, None if it does not run."""
    code = "import sys; print(*sys.version_info[:2])"
    try:
        answer = subprocess.run([python, "-c", code], capture_output=True, text=True, timeout=60)
    except OSError:
        return None
    return tuple(map(int, answer.stdout.split())) if answer.returncode == 0 else None


def pythons():
    """This Python, and one for each further version that is wanted and at hand."""
    found = {sys.version_info[:2]: sys.executable}
    for version in WANTED:
        name = "python" + ".".join(map(str, version))
        places = [name] + glob.glob(os.path.expanduser(f"~/.pyenv/versions/{name[6:]}.*/bin/python3"))
        for place in places:
            if version not in found and version_of(place) == version:
                found[version] = place
    return found


def run_folder(folder):
    """Runs the tests that stand in this folder itself; prints how many ran and how many failed."""
    sys.path.insert(0, ROOT)
    loader = unittest.TestLoader()
    sys.path.insert(0, folder)
    names = sorted(name[:-3] for name in os.listdir(folder) if name.startswith("test_") and name.endswith(".py"))
    result = unittest.TextTestRunner(verbosity=1).run(loader.loadTestsFromNames(names))
    failed = len(result.failures) + len(result.errors) + len(result.unexpectedSuccesses)
    print(f"\n{result.testsRun} {failed}", flush=True)


def run_apart(job):
    """What is printed by this Python in this folder, how many tests ran, and how many failed; one failed if they did
    not come to their end."""
    (_, python), folder = job
    answer = subprocess.run([python, "-B", os.path.abspath(__file__), folder], cwd=ROOT, text=True,
                            stdout=subprocess.PIPE, stderr=subprocess.PIPE)
    words = answer.stdout.split("\n")[-2].split() if answer.stdout.endswith("\n") else []
    if answer.returncode != 0 or len(words) != 2 or not all(word.isdigit() for word in words):
        return answer.stderr, 0, 1
    return answer.stderr, int(words[0]), int(words[1])


def main():
    ran = failed = 0
    jobs = [(python, folder) for python in pythons().items() for folder in folders()]
    with concurrent.futures.ThreadPoolExecutor(max_workers=2) as pool:
        for ((version, _), folder), (text, many, bad) in zip(jobs, pool.map(run_apart, jobs)):
            bad = max(bad, 1 if many == 0 else 0)
            print(text, f"Python {version[0]}.{version[1]}, {os.path.relpath(folder, ROOT)}: {many} tests ran, {bad} failed",
                  sep="", flush=True)
            ran, failed = ran + many, failed + bad
    print(f"{max(ran - failed, 0)} passed, {failed} failed")
    return 1 if failed or not ran else 0


if __name__ == "__main__":
    if len(sys.argv) > 1:
        run_folder(sys.argv[1])
    else:
        sys.exit(main())
