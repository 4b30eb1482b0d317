"""Run all tests of the project, and those under ../shared/tests where there are any."""

import os
import sys
import unittest

HERE = os.path.dirname(os.path.abspath(__file__))
ROOT = os.path.dirname(HERE)
SHARED = os.path.join(os.path.dirname(ROOT), "shared", "tests")


def shared_folders():
    """The folders under shared that hold tests; those of a package are found by the one above."""
    folders = []
    for folder, _, files in os.walk(SHARED):
        holds = any(name.startswith("test_") and name.endswith(".py") for name in files)
        inside = folder != SHARED and "__init__.py" in files
        if holds and not inside:
            folders.append(folder)
    return sorted(folders)


def forget_shared():
    """Files of two folders may have the same name, and each folder has to run its own."""
    for name, module in list(sys.modules.items()):
        if (getattr(module, "__file__", None) or "").startswith(SHARED + os.sep):
            del sys.modules[name]


def run(start, top):
    print("tests in " + start, flush=True)
    forget_shared()
    suite = unittest.TestLoader().discover(start, pattern="test_*.py", top_level_dir=top)
    return unittest.TextTestRunner(stream=sys.stdout, verbosity=1).run(suite)


def failed_of(result):
    return len(result.failures) + len(result.errors) + len(result.unexpectedSuccesses)


def main():
    sys.path.insert(0, ROOT)
    results = [run(HERE, ROOT)] + [run(folder, folder) for folder in shared_folders()]
    total = sum(result.testsRun for result in results)
    failed = sum(failed_of(result) for result in results)
    skipped = sum(len(result.skipped) for result in results)
    good = all(result.wasSuccessful() for result in results) and results[0].testsRun > 0
    print(f"{max(0, total - failed - skipped)} passed, {failed} failed, {skipped} skipped")
    return 0 if good else 1


if __name__ == "__main__":
    sys.exit(main())
